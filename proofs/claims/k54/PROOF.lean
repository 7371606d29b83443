import PyProof.Rows.All
import Wide.All
import OpenK.AllK
import Wide.FinOn
import Lean
import PyProof.EqAt
import PyProof.EqKinds
import PyProof.TupleCall
import PySem.SetTable
import PySem.SetOps
import PyProof.Rows.SetFrom
import PyProof.NeKinds
import PyProof.Rows.StrInSeq3
import PyProof.AttrMissHeap
import PyProof.Rows.SeqMore
import PyProof.Rows.SeqMore2
import PySem.Challenge.RW_tintties_k54_evened_and_rounds_refused
set_option Elab.async false
set_option linter.all false
set_option maxRecDepth 100000
set_option maxHeartbeats 4000000
namespace L2
open PySem PySem.Spec PyProof.Rows
abbrev Key:=Sum Int Str
def ZbK:Key->Value->Bool
 | .inl k,v=>Value.isInt k v
 | .inr x,v=>Value.isStrOf x v
def ZlU(w:World):Key->Int
 | .inl k=>hashInt k
 | .inr x=>hashStr w x
theorem ZR:∀{k:Key}{v:Value},ZbK k v=true->(∃i t,k=Sum.inl i/\v=Value.int i t)\/(∃x t,k=Sum.inr x/\v=Value.str x t)
 | .inl i,v,h=>by
  obtain⟨t,e⟩:=Value.isInt_shape (k:=i) (v:=v) h
  exact .inl ⟨i,t,rfl,e⟩
 | .inr x,v,h=>by
  obtain⟨t,e⟩:=Value.isStrOf_shape (x:=x) (v:=v) h
  exact .inr ⟨x,t,rfl,e⟩
theorem ZeC(i:Int)(t:Tok):ZbK (.inl i) (.int i t)=true:=by simp[ZbK,Value.isInt]
theorem ZeB(x:Str)(t:Tok):ZbK (.inr x) (.str x t)=true:=by simp[ZbK,Value.isStrOf]
theorem ZiY(a b:Int):decide ((Sum.inl a:Key)=Sum.inl b)=(a==b):=by
 by_cases e:a=b
 ·subst e;simp
 ·have h:¬(Sum.inl a:Key)=Sum.inl b:=fun q=>e (Sum.inl.inj q)
  rw[decide_eq_false h]
  exact(beq_eq_false_iff_ne.mpr e).symm
theorem ZiV(a b:Str):decide ((Sum.inr a:Key)=Sum.inr b)=decide (a=b):=by
 by_cases e:a=b
 ·subst e;simp
 ·have h:¬(Sum.inr a:Key)=Sum.inr b:=fun q=>e (Sum.inr.inj q)
  rw[decide_eq_false h,decide_eq_false e]
theorem ZiX(a:Int)(b:Str):decide ((Sum.inl a:Key)=Sum.inr b)=false:=decide_eq_false (fun q=>nomatch q)
theorem ZiW(a:Str)(b:Int):decide ((Sum.inr a:Key)=Sum.inl b)=false:=decide_eq_false (fun q=>nomatch q)
def ZQ(prog:Program)(w:World):PySem.KeyKind prog w Key where
 is:=ZbK
 hash:=ZlU w
 inj:=fun v a b ha hb=>by
  rcases ZR ha with⟨i,t,rfl,rfl⟩|⟨x,t,rfl,rfl⟩
  ·rcases ZR hb with⟨j,u,rfl,e⟩|⟨y,u,rfl,e⟩
   ·injection e with e1 _;rw[e1]
   ·exact nomatch e
  ·rcases ZR hb with⟨j,u,rfl,e⟩|⟨y,u,rfl,e⟩
   ·exact nomatch e
   ·injection e with e1 _;rw[e1]
 byValue:=fun k v h=>by
  rcases ZR h with⟨i,t,rfl,rfl⟩|⟨x,t,rfl,rfl⟩<;>rfl
 pyHash:=fun hv h=>by
  rcases ZR hv with⟨i,t,rfl,rfl⟩|⟨x,t,rfl,rfl⟩
  ·exact wpAny_pyHash_int h
  ·exact wpAny_pyHash_str h
 eqBool:=fun hu hv h=>by
  rcases ZR hu with⟨i,t,rfl,rfl⟩|⟨x,t,rfl,rfl⟩
  ·rcases ZR hv with⟨j,u,rfl,rfl⟩|⟨y,u,rfl,rfl⟩
   ·rw[ZiY]at h;exact wpAny_eqBool_int h
   ·rw[ZiX]at h;exact SeqAt.EqAt.int_str i t y u _ _ _ _ h
  ·rcases ZR hv with⟨j,u,rfl,rfl⟩|⟨y,u,rfl,rfl⟩
   ·rw[ZiW]at h;exact SeqAt.EqAt.str_int x t j u _ _ _ _ h
   ·rw[ZiV]at h;exact wpAny_eqBool_str h
 «strs»:=fun k x t v h=>by
  rcases ZR h with⟨i,u,rfl,e⟩|⟨y,u,rfl,e⟩
  ·exact nomatch e
  ·injection e with e1 _
   subst e1
   cases v<;>rfl
theorem ZcI(prog:Program)(w:World)(i:Int)(t:Tok):(ZQ prog w).is (.inl i) (.int i t)=true:=ZeC i t
theorem ZcH(prog:Program)(w:World)(x:Str)(t:Tok):(ZQ prog w).is (.inr x) (.str x t)=true:=ZeB x t
inductive V where
 |non|bl (b:Bool)|int (i:Int)|str (x:Str)|byt (b:Array UInt8)|flt (b:UInt64)|ref (a:Addr)|ty (n:String)
 deriving DecidableEq
def RelV:V->Value->Prop
 | .non,u=>u=Value.none
 | .bl b,u=>u=Value.bool b
 | .int i,u=>∃t,u=Value.int i t
 | .str x,u=>∃t,u=Value.str x t
 | .byt b,u=>∃t,u=Value.bytes b t
 | .flt b,u=>∃t,u=Value.float b t
 | .ref a,u=>u=Value.ref a
 | .ty n,u=>u=Value.type n
abbrev Vals:List V->List Value->Prop:=Paired RelV
theorem Vals.length{xs:List V}{us:List Value}(r:Vals xs us):xs.length=us.length:=Paired.length r
theorem Vals.get:∀{xs:List V}{us:List Value}{i:Nat}{x:V},Vals xs us->xs[i]?=some x->∃u,us[i]?=some u/\RelV x u
 |_,_,_,_,.nil,e=>by simp at e
 |_,_,0,_,.cons r _,e=>by simp at e;subst e;exact⟨_,rfl,r⟩
 |_,_,i+1,x,.cons _ t,e=>by
  obtain⟨u,h1,h2⟩:=Vals.get (i:=i) (x:=x) t (by simpa using e)
  exact⟨u,by simpa using h1,h2⟩
theorem Vals.set{x:V}{u:Value}(r:RelV x u):∀{xs:List V}{us:List Value}(i:Nat),Vals xs us->Vals (xs.set i x) (us.set i u)
 |_,_,_,.nil=> .nil
 |_,_,0,.cons _ t=> .cons r t
 |_,_,i+1,.cons q t=> .cons q (Vals.set r i t)
theorem Vals.append:∀{xs ys:List V}{us ws:List Value},Vals xs us->Vals ys ws->Vals (xs++ys) (us++ws)
 |_,_,_,_,.nil,s=>s
 |_,_,_,_,.cons r t,s=> .cons r (Vals.append t s)
theorem Vals.take:∀{xs:List V}{us:List Value}(n:Nat),Vals xs us->Vals (xs.take n) (us.take n)
 |_,_,0,_=> .nil
 |_,_,_+1,.nil=> .nil
 |_,_,n+1,.cons r t=> .cons r (Vals.take n t)
theorem Vals.drop:∀{xs:List V}{us:List Value}(n:Nat),Vals xs us->Vals (xs.drop n) (us.drop n)
 |_,_,0,r=>r
 |_,_,_+1,.nil=> .nil
 |_,_,n+1,.cons _ t=>Vals.drop n t
def RelO:Option V->Option Value->Prop
 |some v,some u=>RelV v u
 |none,none=>True
 |_,_=>False
def KV{κ:Type}:List (κ×V)->List (κ×Value)->Prop:=Paired fun(p:κ×V)(q:κ×Value)=>p.1=q.1/\RelV p.2 q.2
def kV:Key->V
 | .inl i=> .int i
 | .inr x=> .str x
inductive HO where
 |lst (xs:List V)
 |tup (xs:List V)
 |dK (kvs:List (Key×V))|dT (kvs:List (List Key×V))
 |set (S:Int->Bool) (n:Nat)
 |ins (C dx:Addr) (fs:List (Str×V))
 |own (x:Addr)
 |xd (fs:List (Str×V))
 |met (f x:Addr)
 |rng (lo hi:Int)
 |frz (o:Obj) (u:HO)
 |tbl (ps:Array Value)
 |ext (φ:Heap->Prop)
abbrev Hp:=Addr->Option HO
def upd(H:Hp)(a:Addr)(o:HO):Hp:=fun b=>if b=a then some o else H b
theorem Zd{H:Hp}{a:Addr}{o:HO}:upd H a o a=some o:=by unfold upd;rw[if_pos rfl]
theorem Zf{H:Hp}{a b:Addr}{o:HO}(h:b≠a):upd H a o b=H b:=by unfold upd;rw[if_neg h]
theorem ZcF{H:Hp}{a b:Addr}{o u:HO}(h:H a=some o)(h':H b=some u)(d:o≠u):a≠b:=by
 intro e;subst e;rw[h]at h';exact d (Option.some.inj h')
theorem Zk{H:Hp}{a b:Addr}{o:HO}(h:H a=some o)(h':H b=none):a≠b:=by
 intro e;subst e;rw[h]at h';cases h'
section
variable(P:Program)(w:World)
def ObjOk(H:Hp)(h:Heap)(a:Addr):HO->Prop
 | .lst xs=>xs.length<=sizeLine/\∃(its:List Value)(n:Nat),Vals xs its/\h.get? a=some {cls:= .type "list",data:= .seq its.toArray n}
 | .tup xs=>xs.length<=sizeLine/\∃its:List Value,Vals xs its/\IsTup h a its.toArray
 | .dK kvs=>kvs.length<=sizeLine/\(a==sysModules)=false/\∃vs,KV kvs vs/\h.DictOf (ZQ P w) a vs
 | .dT kvs=>kvs.length<=sizeLine/\(a==sysModules)=false/\∃xs:List (List Key×Addr×Value),
   Paired (fun(p:List Key×V)(q:List Key×Addr×Value)=>p.1=q.1/\H q.2.1=some (.tup (p.1.map kV))/\RelV p.2 q.2.2) kvs xs/\
   ∃o es ep,h.get? a=some o/\o.ExactDict/\o.data= .dict es ep/\es.toList=xs.map (entryOfKey (tupleKind (ZQ P w)))/\(xs.map (·.1)).Nodup
 | .set S n=>h.SetOf (intKind P w) a S n
 | .ins C dx fs=>H dx=some (.own a)/\fs.length<=1000/\dx≠a/\h.get? a=some (PySem.W.instObj C dx)/\
   ∃mA,h.Ns1 dx mA/\(∀f,RelO (fs.lookup f) (mA f))/\PySem.Within mA (fs.map (·.1))
 | .own _=>∃o,h.get? a=some o
 | .xd fs=>∃mA,h.Ns1 a mA/\∀f,RelO (fs.lookup f) (mA f)
 | .rng lo hi=>∃t u v,h.get? a=some {cls:= .type "range",data:= .fields #[.int lo t,.int hi u,.int 1 v]}
 | .frz o u=>h.get? a=some o/\ObjOk H h a u
 | .tbl ps=>h.get? a=some {cls:= .none,data:= .fields ps}
 | .met f x=>h.get? a=some (PySem.W.methodObj (.ref f) (.ref x))
 | .ext φ=>φ h/\(∃o,h.get? a=some o)/\∀h1 h2:Heap,φ h1->(∀o,h1.get? a=some o->h2.get? a=some o)->φ h2
def HOk(H:Hp)(h:Heap):Prop:=∀a o,H a=some o->ObjOk P w H h a o
end
section
variable{P:Program}{w:World}{H H':Hp}{h h':Heap}{a:Addr}{o:HO}
theorem ObjOk.lt(x:ObjOk P w H h a o):a<h.objs.size:=by
 cases o with
 |lst xs=>obtain⟨_,_,_,_,e⟩:=x;exact Heap.lt_size e
 |tup xs=>obtain⟨_,_,_,p⟩:=x;exact p.lt
 |dK kvs=>obtain⟨_,_,_,_,o,_,_,e,_⟩:=x;exact Heap.lt_size e
 |dT kvs=>obtain⟨_,_,_,_,o,_,_,e,_⟩:=x;exact Heap.lt_size e
 |set S n=>obtain⟨o,_,_,_,e,_⟩:=x;exact Heap.lt_size e
 |ins C dx fs=>obtain⟨_,_,_,e,_⟩:=x;exact Heap.lt_size e
 |own y=>obtain⟨_,e⟩:=x;exact Heap.lt_size e
 |xd fs=>obtain⟨_,⟨_,_,_,e,_⟩,_⟩:=x;exact Heap.lt_size e
 |rng lo hi=>obtain⟨_,_,_,e⟩:=x;exact Heap.lt_size e
 |frz ob u=>obtain⟨e,_⟩:=x;exact Heap.lt_size e
 |tbl ps=>exact Heap.lt_size (show h.get? a=some _ from x)
 |met f y=>exact Heap.lt_size (show h.get? a=some _ from x)
 |ext φ=>obtain⟨_,⟨_,e⟩,_⟩:=x;exact Heap.lt_size e
theorem Paired.mapP{α β:Type}{F G:α->β->Prop}:∀{l₁:List α}{l₂:List β},Paired F l₁ l₂->(∀a b,F a b->G a b)->Paired G l₁ l₂
 |_,_,.nil,_=> .nil
 |_,_,.cons r t,f=> .cons (f _ _ r) (Paired.mapP t f)
theorem ObjOk.stay(x:ObjOk P w H h a o)(k:∀b u,(b=a\/H b=some (.own a))->h.get? b=some u->h'.get? b=some u)
  (ho:∀b,H b=some (.own a)->H' b=some (.own a)) (ht:∀b xs,H b=some (.tup xs)->H' b=some (.tup xs)):ObjOk P w H' h' a o:=by
 induction o with
 |lst xs=>obtain⟨z,its,n,r,e⟩:=x;exact⟨z,its,n,r,k _ _ (.inl rfl) e⟩
 |tup xs=>obtain⟨z,its,r,ob,e,c⟩:=x;exact⟨z,its,r,ob,k _ _ (.inl rfl) e,c⟩
 |dK kvs=>obtain⟨z,y,vs,r,ob,es,ep,e,c⟩:=x;exact⟨z,y,vs,r,ob,es,ep,k _ _ (.inl rfl) e,c⟩
 |dT kvs=>
  obtain⟨z,y,xs,r,ob,es,ep,e,c⟩:=x
  exact⟨z,y,xs,Paired.mapP r fun p q z=>⟨z.1,ht _ _ z.2.1,z.2.2⟩,ob,es,ep,k _ _ (.inl rfl) e,c⟩
 |set S n=>obtain⟨ob,es,ep,t,e,c⟩:=x;exact⟨ob,es,ep,t,k _ _ (.inl rfl) e,c⟩
 |ins C dx fs=>
  obtain⟨d,z,ne,e,mA,⟨od,es,ep,e2,c⟩,r⟩:=x
  exact⟨ho _ d,z,ne,k _ _ (.inl rfl) e,mA,⟨od,es,ep,k _ _ (.inr d) e2,c⟩,r⟩
 |own y=>obtain⟨ob,e⟩:=x;exact⟨ob,k _ _ (.inl rfl) e⟩
 |xd fs=>obtain⟨mA,⟨od,es,ep,e,c⟩,r⟩:=x;exact⟨mA,⟨od,es,ep,k _ _ (.inl rfl) e,c⟩,r⟩
 |rng lo hi=>obtain⟨t,u,v,e⟩:=x;exact⟨t,u,v,k _ _ (.inl rfl) e⟩
 |frz ob u ih=>obtain⟨e,q⟩:=x;exact⟨k _ _ (.inl rfl) e,ih q⟩
 |tbl ps=>
  have e:h.get? a=some {cls:= .none,data:= .fields ps}:=x
  show h'.get? a=some {cls:= .none,data:= .fields ps}
  exact k a _ (.inl rfl) e
 |met f y=>
  have e:h.get? a=some (PySem.W.methodObj (.ref f) (.ref y)):=x
  show h'.get? a=some (PySem.W.methodObj (.ref f) (.ref y))
  exact k a _ (.inl rfl) e
 |ext φ=>obtain⟨p,⟨o,e⟩,st⟩:=x;exact⟨st _ _ p fun o q=>k _ _ (.inl rfl) q,⟨o,k _ _ (.inl rfl) e⟩,st⟩
theorem HOk.lt(x:HOk P w H h)(e:H a=some o):a<h.objs.size:=(x a o e).lt
theorem HOk.fresh(x:HOk P w H h)(e:h.objs.size<=a):H a=none:=by
 cases q:H a with
 |none=>rfl
 |some u=>exact absurd (Nat.lt_of_lt_of_le (x.lt q) e) (Nat.lt_irrefl _)
theorem HOk.kept(x:HOk P w H h)(k:∀b u,h.get? b=some u->h'.get? b=some u):HOk P w H h':=fun a o e=>
 (x a o e).stay (fun b u _ q=>k b u q) (fun _ q=>q) fun _ _ q=>q
theorem HOk.laid(x:HOk P w H h)(k:∀b u,h.get? b=some u->h'.get? b=some u) (hp:h.objs.size<=a) (new:ObjOk P w (upd H a o) h' a o):HOk P w (upd H a o) h':=fun b u e=>by
 have hn:=x.fresh hp
 by_cases hb:b=a
 ·subst hb;rw[Zd]at e;cases e;exact new
 ·rw[Zf hb]at e
  exact(x b u e).stay (fun c v _ q=>k c v q) (fun c q=>by rw[Zf (Zk q hn)];exact q) fun c xs q=>by rw[Zf (Zk q hn)];exact q
end
def Rd(H:Hp)(a:Addr)(u:HO):Prop:=H a=some u\/∃o,H a=some (.frz o u)
theorem Rd.of{H:Hp}{a:Addr}{u:HO}(h:H a=some u):Rd H a u:= .inl h
theorem Rd.ok{P:Program}{w:World}{H:Hp}{h:Heap}{a:Addr}{u:HO}(r:Rd H a u)(x:HOk P w H h):ObjOk P w H h a u:=by
 rcases r with r|⟨o,r⟩
 ·exact x a u r
 ·obtain⟨_,q⟩:=x a _ r
  exact q
def Mut:Option HO->Prop
 |some (.lst _)=>True
 |some (.dK _)=>True
 |some (.dT _)=>True
 |some (.set _ _)=>True
 |some (.ins _ _ _)=>True
 |some (.ext _)=>True
 |_=>False
section
variable{P:Program}{w:World}{H:Hp}{h h':Heap}{x e:Addr}{o':HO}
theorem HOk.write(ok:HOk P w H h)(mu:Mut (H x))(he:e=x\/H e=some (.own x))(k:∀b u,b≠e->h.get? b=some u->h'.get? b=some u) (heo:∃u,h'.get? e=some u)
  (new:ObjOk P w (upd H x o') h' x o'):HOk P w (upd H x o') h':=fun b u q=>by
 have nown:∀c y,H c=some (.own y)->c≠x:=fun c y r z=>by subst z;rw[r]at mu;exact mu
 have ntup:∀c xs,H c=some (.tup xs)->c≠x:=fun c xs r z=>by subst z;rw[r]at mu;exact mu
 by_cases hb:b=x
 ·subst hb;rw[Zd]at q;cases q;exact new
 ·rw[Zf hb]at q
  by_cases hbe:b=e
  ·have q':H b=some (.own x):=by
    rcases he with z|z
    ·exact absurd (hbe.trans z) hb
    ·rw[hbe];exact z
   rw[q]at q';cases q'
   obtain⟨v,hv⟩:=heo
   exact⟨v,by rw[hbe];exact hv⟩
  ·refine(ok b u q).stay (fun c v hc r=>k c v ?_ r) (fun c r=>by rw[Zf (nown c b r)];exact r) fun c xs r=>by rw[Zf (ntup c xs r)];exact r
   rcases hc with rfl|hc
   ·exact hbe
   ·rintro rfl
    rcases he with z|z
    ·exact nown c b hc z
    ·rw[hc]at z;cases z;exact hb rfl
end
structure Un(fs ex:List Addr)(H H':Hp)(h h':Heap):Prop where
 keep:∀b o,h.get? b=some o->H b=none->b ∉ fs->b ∉ ex->h'.get? b=some o
 slot:∀b o,h.get? b=some o->H b=none->b∈fs->b ∉ ex->∃sl,h'.get? b=some {o with slots:=sl}
 free:∀b o,h.get? b=some o->H b=none->b ∉ ex->H' b=none
 there:∀b o,h.get? b=some o->b ∉ ex->∃o',h'.get? b=some o'
 tups:∀b xs,H b=some (.tup xs)->H' b=some (.tup xs)
 frzs:∀b o u,H b=some (.frz o u)->H' b=some (.frz o u)
 tbls:∀b ps,H b=some (.tbl ps)->∃more,H' b=some (.tbl (ps++more))
section
variable{fs fs' ex ex':List Addr}{H H1 H2:Hp}{h h1 h2 h':Heap}{a x e:Addr}{o:HO}
theorem Un.any(u:Un fs ex H H1 h h1){b:Addr}{ob:Obj}(q:h.get? b=some ob)(n:H b=none)(hx:b ∉ ex):∃sl,h1.get? b=some {ob with slots:=sl}:=by
 by_cases hb:b∈fs
 ·exact u.slot b ob q n hb hx
 ·exact⟨ob.slots,u.keep b ob q n hb hx⟩
theorem Un.trans(a:Un fs ex H H1 h h1)(b:Un fs ex H1 H2 h1 h2):Un fs ex H H2 h h2 where
 keep:=fun c ob q n hc hx=>b.keep c ob (a.keep c ob q n hc hx) (a.free c ob q n hx) hc hx
 slot:=fun c ob q n hc hx=>by
  obtain⟨sl,e1⟩:=a.slot c ob q n hc hx
  obtain⟨sl',e2⟩:=b.slot c _ e1 (a.free c ob q n hx) hc hx
  exact⟨sl',e2⟩
 free:=fun c ob q n hx=>by
  obtain⟨o',e1⟩:=a.there c ob q hx
  exact b.free c o' e1 (a.free c ob q n hx) hx
 there:=fun c ob q hx=>by
  obtain⟨o',e1⟩:=a.there c ob q hx
  exact b.there c o' e1 hx
 tups:=fun c xs q=>b.tups c xs (a.tups c xs q)
 frzs:=fun c ob xs q=>b.frzs c ob xs (a.frzs c ob xs q)
 tbls:=fun c ps q=>by
  obtain⟨m1,e1⟩:=a.tbls c ps q
  obtain⟨m2,e2⟩:=b.tbls c _ e1
  exact⟨m1++m2,by rw[e2,Array.append_assoc]⟩
theorem Un.kept(k:∀b u,h.get? b=some u->h'.get? b=some u):Un fs ex H H h h':=
 ⟨fun b ob q _ _ _=>k b ob q,fun b ob q _ _ _=>⟨ob.slots,k b ob q⟩,fun _ _ _ n _=>n,fun b ob q _=>⟨ob,k b ob q⟩,fun _ _ q=>q,fun _ _ _ q=>q,fun _ ps q=>⟨#[],by rw[q];simp⟩⟩
theorem Un.refl:Un fs ex H H h h:=Un.kept fun _ _ q=>q
theorem Un.laid(k:∀b u,h.get? b=some u->h'.get? b=some u) (hp:h.objs.size<=a) (hn:H a=none):Un fs ex H (upd H a o) h h' where
 keep:=fun b u q _ _ _=>k b u q
 slot:=fun b u q _ _ _=>⟨u.slots,k b u q⟩
 free:=fun b u q n _=>by rw[Zf (Nat.ne_of_lt (Nat.lt_of_lt_of_le (Heap.lt_size q) hp))];exact n
 there:=fun b u q _=>⟨u,k b u q⟩
 tups:=fun b xs q=>by rw[Zf (Zk q hn)];exact q
 frzs:=fun b u xs q=>by rw[Zf (Zk q hn)];exact q
 tbls:=fun b ps q=>⟨#[],by rw[Zf (Zk q hn),q];simp⟩
theorem Un.write(mu:Mut (H x))(he:e=x\/H e=some (.own x))(k:∀b u,b≠e->h.get? b=some u->h'.get? b=some u) (heo:∃u,h'.get? e=some u):Un fs ex H (upd H x o) h h':=by
 have hx:∀b,H b=none->b≠x:=fun b n z=>by subst z;rw[n]at mu;exact mu
 have hb:∀b,H b=none->b≠e:=fun b n z=>by
  subst z
  rcases he with r|r
  ·exact hx b n r
  ·rw[n]at r;cases r
 have hm:∀b u,H b=some u->¬Mut (some u)->b≠x:=fun b u q nm z=>by subst z;rw[q]at mu;exact nm mu
 refine⟨fun b u q n _ _=>k b u (hb b n) q,fun b u q n _ _=>⟨u.slots,k b u (hb b n) q⟩,fun b u q n _=>by rw[Zf (hx b n)];exact n,fun b u q _=>?_,
  fun b xs q=>by rw[Zf (hm b _ q fun z=>z)];exact q,fun b u xs q=>by rw[Zf (hm b _ q fun z=>z)];exact q,fun b ps q=>⟨#[],by rw[Zf (hm b _ q fun z=>z),q];simp⟩⟩
 by_cases hbe:b=e
 ·subst hbe;exact heo
 ·exact⟨u,k b u hbe q⟩
theorem Un.mono(u:Un fs ex H H1 h h1)(hs:∀b∈fs,b∈fs') (hx:∀b∈ex,b∈ex'):Un fs' ex' H H1 h h1:=
 ⟨fun b ob q n hb he=>u.keep b ob q n (fun z=>hb (hs b z)) fun z=>he (hx b z),fun _ _ q n _ he=>u.any q n fun z=>he (hx _ z),fun b ob q n he=>u.free b ob q n fun z=>he (hx b z),fun b ob q he=>u.there b ob q fun z=>he (hx b z),u.tups,u.frzs,u.tbls⟩
end
def trk(h:Heap)(H:Hp):List Addr:=(List.range h.objs.size).filter fun a=>(H a).isSome
def Zcp(h:Heap)(H:Hp):Heap:=PySem.W.hideAll h (trk h H)
theorem ZeE(h:Heap)(H:Hp):(Zcp h H).objs.size=h.objs.size:=PySem.W.hideAll_size _ _
theorem ZfS{h:Heap}{H:Hp}{b:Addr}{o:Obj}(e:h.get? b=some o)(n:H b=none):(Zcp h H).get? b=some o:=
 PySem.W.hideAll_get _ e fun hm=>by
  have q:(H b).isSome=true:=(List.mem_filter.mp hm).2
  rw[n]at q;simp at q
theorem ZgX{h:Heap}{H:Hp}{b:Addr}{o:Obj}(e:(Zcp h H).get? b=some o):h.get? b=some o/\H b=none:=by
 have e':h.get? b=some o:=PySem.W.of_hideAll (trk h H) e
 refine⟨e',?_⟩
 cases q:H b with
 |none=>rfl
 |some x=>
  have hm:b∈trk h H:=List.mem_filter.mpr ⟨List.mem_range.mpr (Heap.lt_size e'),by simp[q]⟩
  have z:(Zcp h H).get? b=none:=PySem.W.hideAll_none (trk h H) hm
  rw[z]at e;cases e
def Zh6(g h:Heap)(L:Addr):List (Addr×Obj):=(List.range h.objs.size).filterMap fun a=>if a=L\/(g.get? a).isSome=true then none else(h.get? a).map fun o=>(a,o)
def rest(g h:Heap)(L d:Addr):List (Addr×Obj):=(Zh6 g h L).filter fun p=>decide (p.1≠d)
structure Mod(K:PySem.W.Frag)(mg:Str->Option Value)(base:Heap):Prop where
 kin:K.In base
 glob:base.Ns mainGlobals mg
 blt:∃mb,base.Ns builtinsNs mb/\∀x:Str,x≠"__name__"->mb x=bootBuiltins x
 nolimit:base.NoLimit
structure Cx where
 prog:Program
 w:World
 K:PySem.W.Frag
 mg:Str->Option Value
 base:Heap
 A:Around
 N:List Str
 s₀:Shared
 H₀:Hp
 env:Env
 outer:List Env
 stack:List Env
 ex:List Addr
 fn:Str->Bool
 calm:Bool
 pn:List (Addr×Obj)
 xe:Value->Shared->Prop
def frs(l:List Env):List Addr:=l.filterMap (·.frame)
abbrev Cx.fs(X:Cx):List Addr:=frs X.outer
def Vis(sc:Scope)(x:Str):Prop:=sc.names.lookup x=some .local\/sc.names.lookup x=some .cell\/sc.names.lookup x=some .free
def Loc(sc:Scope)(x:Str):Prop:=sc.names.lookup x=some .local\/sc.names.lookup x=some .cell
def Look(env:Env)(h:Heap)(m:Str->Option Value)(x:Str)(u:Value):Prop:=
 (env.kindOf x=some .local/\m x=some u)\/((env.kindOf x=some .cell\/env.kindOf x=some .free)/\∃c,env.cells.lookup x=some c/\h.IsCell c (some u))
structure Cx.Ok(X:Cx):Prop where
 mod:Mod X.K X.mg X.base
 kind:X.env.scope.kind= .function
 glob:X.env.globals=mainGlobals
 blt:X.env.builtins=builtinsNs
 above:X.s₀.heap.objs.size<=X.env.locals
 inj:∀x y c,X.env.cells.lookup x=some c->X.env.cells.lookup y=some c->x=y
 has:∀x,(X.env.kindOf x=some .cell\/X.env.kindOf x=some .free)->∃c,X.env.cells.lookup x=some c
 cab:∀x c,X.fn x=true->X.env.cells.lookup x=some c->X.s₀.heap.objs.size<=c
 hd:X.calm=true->X.A.handled=none
 frames:X.A.frames=some X.stack
 stk:X.stack=X.outer\/(X.stack=X.env::X.outer/\X.env.frame=some X.env.locals)
 exf:∀b∈X.ex,b≠X.env.locals/\∀x c,X.env.cells.lookup x=some c->c≠b
 bs:∀b o,X.base.get? b=some o->X.s₀.heap.get? b=some o/\X.H₀ b=none
 bsz:X.base.objs.size<=X.s₀.heap.objs.size
 noex:∀b o,X.base.get? b=some o->b ∉ X.ex
 exfs:∀b∈X.ex,b ∉ X.fs
 funs:X.s₀.heap.FunFrames X.base X.outer
 frf:∀b∈X.fs,X.H₀ b=none
structure Inv(X:Cx)(pins:List (Addr×Obj))(σ:List (Option V))(H:Hp)(s:Shared):Prop where
 ok:X.Ok
 os:s.os=X.s₀.os
 bare:AllBare s.gens
 base:Un X.fs X.ex X.H₀ H X.s₀.heap s.heap
 loc:∃m,s.heap.Ns X.env.locals m/\∀(i:Nat)(x:Str)(v:V),X.N[i]?=some x->σ[i]?=some (some v)->Vis X.env.scope x->∃u,RelV v u/\Look X.env s.heap m x u
 cell:∀x c,X.env.cells.lookup x=some c->∃v,s.heap.IsCell c v
 free:H X.env.locals=none
 freeC:∀x c,X.env.cells.lookup x=some c->H c=none
 pin:∀p∈X.pn++pins,s.heap.get? p.1=some p.2/\H p.1=none/\p.1≠X.env.locals/\p.1 ∉ X.fs/\∀v,p.2.data≠.cell v
 hok:HOk X.prog X.w H s.heap
 len:σ.length=X.N.length
section
variable{X:Cx}{pins:List (Addr×Obj)}{σ:List (Option V)}{H H':Hp}{s:Shared}{h':Heap}
theorem Cx.Ok.nofr(ok:X.Ok){b:Addr}{o:Obj}(e:X.base.get? b=some o):b ∉ X.fs:=fun hb=>by
 have:=(ok.funs.mem hb).1
 rw[e]at this;cases this
theorem Inv.bs(I:Inv X pins σ H s):∀b o,X.base.get? b=some o->s.heap.get? b=some o/\H b=none:=fun b o e=>
 ⟨I.base.keep b o (I.ok.bs b o e).1 (I.ok.bs b o e).2 (I.ok.nofr e) (I.ok.noex b o e),I.base.free b o (I.ok.bs b o e).1 (I.ok.bs b o e).2 (I.ok.noex b o e)⟩
theorem Inv.bk(I:Inv X pins σ H s):∀b o,X.base.get? b=some o->s.heap.get? b=some o:=fun b o e=>(I.bs b o e).1
theorem Inv.mod(I:Inv X pins σ H s):Mod X.K X.mg X.base:=I.ok.mod
theorem Inv.kIn(I:Inv X pins σ H s):X.K.In s.heap:=I.ok.mod.kin.keeps I.bk
theorem Inv.nolimit(I:Inv X pins σ H s):s.heap.NoLimit:=I.ok.mod.nolimit.keeps I.bk
theorem Inv.fr(I:Inv X pins σ H s):∃m,Fr X.base X.env.locals s.heap m:=
 let⟨m,hn,_⟩:=I.loc
 ⟨m,hn,I.bk,Nat.le_trans I.ok.bsz I.ok.above⟩
theorem Inv.lt(I:Inv X pins σ H s):X.env.locals<s.heap.objs.size:=let⟨_,hn,_⟩:=I.loc;hn.lt
theorem Inv.sz(I:Inv X pins σ H s):X.s₀.heap.objs.size<=s.heap.objs.size:=Nat.le_trans I.ok.above (Nat.le_of_lt I.lt)
theorem Inv.nofs(I:Inv X pins σ H s){a:Addr}(h:s.heap.objs.size<=a):a ∉ X.fs:=fun hb=>by
 obtain⟨_,o,ho,_⟩:=I.ok.funs.mem hb
 exact absurd (Nat.lt_of_lt_of_le (Heap.lt_size ho) (Nat.le_trans I.sz h)) (Nat.lt_irrefl _)
theorem Inv.cne(I:Inv X pins σ H s):∀x c,X.env.cells.lookup x=some c->c≠X.env.locals:=fun x c e z=>by
 obtain⟨v,o,ho,hd⟩:=I.cell x c e
 obtain⟨m,⟨o',es,ep,ho',hd',_⟩,_⟩:=I.loc
 rw[z,ho']at ho;cases ho;rw[hd']at hd;cases hd
theorem Inv.funs(I:Inv X pins σ H s):s.heap.FunFrames X.base X.outer:=by
 have all:∀(l:List Env),(∀b∈frs l,b∈X.fs)->X.s₀.heap.FunFrames X.base l->s.heap.FunFrames X.base l:=by
  intro l
  induction l with
  |nil=>intro _ _;trivial
  |cons env r ih=>
   intro hs hl
   obtain⟨hk,⟨L,o,hf,hn,ho,hd⟩,hr⟩:=hl
   have hL:L∈X.fs:=hs L (by unfold frs;rw[List.filterMap_cons,hf];exact List.mem_cons_self)
   obtain⟨sl,e⟩:=I.base.slot L o ho (I.ok.frf L hL) hL fun z=>I.ok.exfs L z hL
   exact⟨hk,⟨L,_,hf,hn,e,hd⟩,ih (fun b hb=>hs b (by unfold frs;rw[List.filterMap_cons,hf];exact List.mem_cons_of_mem _ hb)) hr⟩
 exact all X.outer (fun _ hb=>hb) I.ok.funs
theorem Inv.stack(I:Inv X pins σ H s):s.heap.FunFrames X.base X.stack:=by
 rcases I.ok.stk with e|⟨e,hf⟩
 ·rw[e];exact I.funs
 ·rw[e]
  obtain⟨m,hn,_⟩:=I.loc
  refine .cons (by rw[I.ok.kind];decide) hf hn ?_ I.funs
  exact Heap.get?_none_of_le (Nat.le_trans I.ok.bsz I.ok.above)
theorem Inv.stkSub(I:Inv X pins σ H s):∀b∈frs X.stack,b∈X.env.locals::X.fs:=fun b hb=>by
 rcases I.ok.stk with e|⟨e,hf⟩
 ·rw[e]at hb;exact List.mem_cons_of_mem _ hb
 ·rw[e]at hb
  unfold frs at hb
  rw[List.filterMap_cons,hf]at hb
  exact hb
theorem Inv.stkFree(I:Inv X pins σ H s):∀b∈frs X.stack,H b=none:=fun b hb=>by
 rcases List.mem_cons.mp (I.stkSub b hb)with e|hb
 ·rw[e];exact I.free
 ·obtain⟨_,o,ho,_⟩:=I.ok.funs.mem hb
  exact I.base.free b o ho (I.ok.frf b hb) fun z=>I.ok.exfs b z hb
theorem Inv.step{g':Array GenState}{t':Nat}{d':Drawn}{ch:List Addr}(I:Inv X pins σ H s)
  (hch:∀b∈ch,(b∈X.ex\/X.s₀.heap.objs.size<=b)/\b≠X.env.locals/\(∀x c,X.env.cells.lookup x=some c->c≠b)/\∀p∈X.pn++pins,p.1≠b)
  (keep:∀b o,b≠X.env.locals->b ∉ X.fs->b ∉ ch->s.heap.get? b=some o->H b=none->h'.get? b=some o)
  (slot:∀b o,b≠X.env.locals->b∈X.fs->b ∉ ch->s.heap.get? b=some o->H b=none->∃sl,h'.get? b=some {o with slots:=sl}) (free:∀b o,b ∉ ch->s.heap.get? b=some o->H b=none->H' b=none)
  (there:∀b o,b ∉ ch->s.heap.get? b=some o->∃o',h'.get? b=some o')
  (tups:∀b xs,H b=some (.tup xs)->H' b=some (.tup xs)) (frzs:∀b o u,H b=some (.frz o u)->H' b=some (.frz o u)) (tbls:∀b ps,H b=some (.tbl ps)->∃more,H' b=some (.tbl (ps++more)))
  (ns:∀m,s.heap.Ns X.env.locals m->h'.Ns X.env.locals m) (hok:HOk X.prog X.w H' h') (hg:AllBare g'):
  Inv X pins σ H' {s with heap:=h',gens:=g',drawn:=d',toks:=t'}:=by
 have neL:∀b o,X.s₀.heap.get? b=some o->b≠X.env.locals:=fun b o e=>Nat.ne_of_lt (Nat.lt_of_lt_of_le (Heap.lt_size e) I.ok.above)
 have neC:∀b o,X.s₀.heap.get? b=some o->b ∉ X.ex->b ∉ ch:=fun b o e hx hb=>by
  rcases(hch b hb).1 with z|z
  ·exact hx z
  ·exact absurd (Nat.lt_of_lt_of_le (Heap.lt_size e) z) (Nat.lt_irrefl _)
 have cellK:∀x c,X.env.cells.lookup x=some c->∀v,s.heap.IsCell c v->h'.IsCell c v:=fun x c e v⟨o,ho,hd⟩=>by
  have nch:c ∉ ch:=fun z=>(hch c z).2.2.1 x c e rfl
  by_cases hc:c∈X.fs
  ·obtain⟨sl,q⟩:=slot c o (I.cne x c e) hc nch ho (I.freeC x c e)
   exact⟨_,q,hd⟩
  ·exact⟨o,keep c o (I.cne x c e) hc nch ho (I.freeC x c e),hd⟩
 refine⟨I.ok,I.os,hg,⟨fun b o e n hb hx=>?_,fun b o e n hb hx=>?_,fun b o e n hx=>?_,fun b o e hx=>?_,fun b xs e=>tups b xs (I.base.tups b xs e),fun b o xs e=>frzs b o xs (I.base.frzs b o xs e),fun b ps e=>?_⟩,?_,fun x c e=>?_,?_,fun x c e=>?_,fun p hp=>?_,hok,I.len⟩
 ·exact keep b o (neL b o e) hb (neC b o e hx) (I.base.keep b o e n hb hx) (I.base.free b o e n hx)
 ·obtain⟨sl,e1⟩:=I.base.slot b o e n hb hx
  obtain⟨sl',e2⟩:=slot b _ (neL b o e) hb (neC b o e hx) e1 (I.base.free b o e n hx)
  exact⟨sl',e2⟩
 ·obtain⟨o',e1⟩:=I.base.there b o e hx
  exact free b o' (neC b o e hx) e1 (I.base.free b o e n hx)
 ·obtain⟨o',e1⟩:=I.base.there b o e hx
  exact there b o' (neC b o e hx) e1
 ·obtain⟨m1,e1⟩:=I.base.tbls b ps e
  obtain⟨m2,e2⟩:=tbls b _ e1
  exact⟨m1++m2,by rw[e2,Array.append_assoc]⟩
 ·obtain⟨m,hn,hl⟩:=I.loc
  refine⟨m,ns m hn,fun i x v e1 e2 e3=>?_⟩
  obtain⟨u,r,l⟩:=hl i x v e1 e2 e3
  refine⟨u,r,?_⟩
  rcases l with l|⟨k,c,e,z⟩
  ·exact .inl l
  ·exact .inr ⟨k,c,e,cellK x c e _ z⟩
 ·obtain⟨v,z⟩:=I.cell x c e
  exact⟨v,cellK x c e v z⟩
 ·obtain⟨m,⟨o,_,_,ho,_⟩,_⟩:=I.loc
  exact free _ o (fun z=>(hch _ z).2.1 rfl) ho I.free
 ·obtain⟨v,o,ho,hd⟩:=I.cell x c e
  exact free c o (fun z=>(hch c z).2.2.1 x c e rfl) ho (I.freeC x c e)
 ·obtain⟨e,n,ne,nf,d⟩:=I.pin p hp
  have nch:p.1 ∉ ch:=fun z=>(hch p.1 z).2.2.2 p hp rfl
  exact⟨keep p.1 p.2 ne nf nch e n,free p.1 p.2 nch e n,ne,nf,d⟩
theorem Inv.un{t':Nat}(I:Inv X pins σ H s)(u:Un X.fs [] H H' s.heap h')(hok:HOk X.prog X.w H' h'):Inv X pins σ H' {s with heap:=h',toks:=t'}:=by
 obtain⟨m,⟨o,es,ep,ho,r⟩,_⟩:=id I.loc
 obtain⟨sl,hL⟩:=u.any ho I.free (by simp)
 exact I.step (g':=s.gens) (d':=s.drawn) (ch:=[]) (fun _ z=>nomatch z) (fun b o _ hb _ e n=>u.keep b o e n hb (by simp)) (fun b o _ hb _ e n=>u.slot b o e n hb (by simp)) (fun b o _ e n=>u.free b o e n (by simp)) (fun b o _ e=>u.there b o e (by simp)) u.tups u.frzs u.tbls (fun m' hm=>by
  obtain⟨o',es',ep',ho',r'⟩:=hm
  rw[ho]at ho';cases ho'
  exact⟨_,es',ep',hL,r'⟩) hok I.bare
theorem Inv.call{g':Array GenState}{t':Nat}{d':Drawn}{ch:List Addr}(I:Inv X pins σ H s)(u:Un (frs X.stack) ch H H' s.heap h')(hok:HOk X.prog X.w H' h')(hg:AllBare g')
  (hch:∀b∈ch,(b∈X.ex\/X.s₀.heap.objs.size<=b)/\b≠X.env.locals/\(∀x c,X.env.cells.lookup x=some c->c≠b)/\∀p∈X.pn++pins,p.1≠b):
  Inv X pins σ H' {s with heap:=h',gens:=g',drawn:=d',toks:=t'}:=by
 obtain⟨m,⟨o,es,ep,ho,r⟩,_⟩:=id I.loc
 obtain⟨sl,hL⟩:=u.any ho I.free fun z=>(hch _ z).2.1 rfl
 exact I.step (ch:=ch) hch (fun b o hL hb hc e n=>u.keep b o e n (fun z=>(List.mem_cons.mp (I.stkSub b z)).elim hL hb) hc) (fun b o _ _ hc e n=>u.any e n hc) (fun b o hc e n=>u.free b o e n hc) (fun b o hc e=>u.there b o e hc) u.tups u.frzs u.tbls (fun m' hm=>by
  obtain⟨o',es',ep',ho',r'⟩:=hm
  rw[ho]at ho';cases ho'
  exact⟨_,es',ep',hL,r'⟩) hok hg
theorem Inv.turned{t':Nat}{it:Addr}(I:Inv X pins σ H s)(k:∀b o,b≠it->s.heap.get? b=some o->h'.get? b=some o) (hn:H it=none) (hL:it≠X.env.locals)
  (h1:it∈X.ex\/X.s₀.heap.objs.size<=it) (h2:∀x c,X.env.cells.lookup x=some c->c≠it) (h3:∀p∈X.pn++pins,p.1≠it):Inv X pins σ H {s with heap:=h',toks:=t'}:=by
 have nit:∀b u,H b=some u->b≠it:=fun b u e z=>by rw[z,hn]at e;cases e
 refine I.step (g':=s.gens) (d':=s.drawn) (ch:=[it]) (fun b hb=>?_) (fun b o _ _ hc e _=>k b o (fun z=>hc (by simp[z])) e) (fun b o _ _ hc e _=>⟨o.slots,k b o (fun z=>hc (by simp[z])) e⟩) (fun _ _ _ _ n=>n)
  (fun b o hc e=>⟨o,k b o (fun z=>hc (by simp[z])) e⟩) (fun _ _ e=>e) (fun _ _ _ e=>e) (fun b ps e=>⟨#[],by rw[e];simp⟩) (fun m hm=>?_) (fun b u e=>?_) I.bare
 ·have e:b=it:=by simpa using hb
  subst e
  exact⟨h1,hL,h2,h3⟩
 ·obtain⟨o,es,ep,ho,r⟩:=hm
  exact⟨o,es,ep,k _ o (Ne.symm hL) ho,r⟩
 ·refine(I.hok b u e).stay (fun c v hc q=>k c v ?_ q) (fun _ q=>q) fun _ _ q=>q
  rcases hc with z|z
  ·rw[z];exact nit b u e
  ·exact nit c _ z
theorem Inv.tok(I:Inv X pins σ H s)(t:Nat):Inv X pins σ H {s with toks:=t}:=I.un (h':=s.heap) (t':=t) Un.refl I.hok
theorem Inv.kept{t':Nat}(I:Inv X pins σ H s)(k:∀b u,s.heap.get? b=some u->h'.get? b=some u):Inv X pins σ H {s with heap:=h',toks:=t'}:=I.un (Un.kept k) (I.hok.kept k)
theorem Inv.laid{a:Addr}{o:HO}{t':Nat}(I:Inv X pins σ H s)(k:∀b u,s.heap.get? b=some u->h'.get? b=some u) (hp:s.heap.objs.size<=a) (new:ObjOk X.prog X.w (upd H a o) h' a o):
  Inv X pins σ (upd H a o) {s with heap:=h',toks:=t'}:=I.un (Un.laid k hp (I.hok.fresh hp)) (I.hok.laid k hp new)
theorem Inv.write{x e:Addr}{o:HO}{t':Nat}(I:Inv X pins σ H s)(mu:Mut (H x))(he:e=x\/H e=some (.own x))(k:∀b u,b≠e->s.heap.get? b=some u->h'.get? b=some u) (heo:∃u,h'.get? e=some u)
  (new:ObjOk X.prog X.w (upd H x o) h' x o):Inv X pins σ (upd H x o) {s with heap:=h',toks:=t'}:=I.un (Un.write mu he k heo) (I.hok.write mu he k heo new)
theorem Inv.pins_of{pins':List (Addr×Obj)}(I:Inv X pins σ H s)(h:∀p∈pins',s.heap.get? p.1=some p.2/\H p.1=none/\p.1≠X.env.locals/\p.1 ∉ X.fs/\∀v,p.2.data≠.cell v):Inv X pins' σ H s:=
 ⟨I.ok,I.os,I.bare,I.base,I.loc,I.cell,I.free,I.freeC,fun p hp=>(List.mem_append.mp hp).elim (fun z=>I.pin p (List.mem_append_left _ z)) (h p),I.hok,I.len⟩
theorem Zba{N:List Str}(hN:N.Nodup){i j:Nat}{x:Str}(a:N[i]?=some x)(b:N[j]?=some x):i=j:=by
 obtain⟨h1,e1⟩:=List.getElem?_eq_some_iff.mp a
 obtain⟨h2,e2⟩:=List.getElem?_eq_some_iff.mp b
 exact(List.getElem_inj hN).mp (e1.trans e2.symm)
theorem Zeu{M:Model}{A:Around}{E:Value->Shared->Prop}{i:Nat}{x:Str}{v:V}{u:Value}{Q:Unit->Shared->Prop}(I:Inv X pins σ H s)(hN:X.N.Nodup)(hi:X.N[i]?=some x)(hx:Loc X.env.scope x)(r:RelV v u)
  (h:∀s',Inv X pins (σ.set i (some v)) H s'->(∃a,Heap.SameBut a s.heap s'.heap/\(a=X.env.locals\/X.env.cells.lookup x=some a))->Q () s') (hf:X.fn x=true\/X.env.scope.names.lookup x=some .local:=by first|exact .inl rfl|exact .inr rfl|assumption):wpAny M A (storeName X.env x u) Q E s:=by
 obtain⟨m,hn,hl⟩:=id I.loc
 have hcls:(X.env.scope.kind== .class||(X.env.scope.kind== .module&&X.env.locals !=X.env.globals))=false:=by rw[I.ok.kind];rfl
 have hiσ:i<σ.length:=by rw[I.len];exact(List.getElem?_eq_some_iff.mp hi).1
 have cne:=I.cne
 have tracked:∀{a:Addr}{h':Heap},(∃o,s.heap.get? a=some o/\H a=none)->Heap.SameBut a s.heap h'->HOk X.prog X.w H h':=fun{a h'} ha hs b ob e=>by
  obtain⟨_,_,hfree⟩:=ha
  refine(I.hok b ob e).stay (fun c w' hc q=>(hs.2 c ?_).trans q) (fun _ q=>q) fun _ _ q=>q
  rintro rfl
  rcases hc with rfl|hc
  ·rw[hfree]at e;cases e
  ·rw[hfree]at hc;cases hc
 rcases hx with hk|hk
 ·refine wpAny_storeName_local hk hn (fun h' hn' hs=>?_) hcls
  obtain⟨oL,_,_,hoL,_⟩:=id hn
  refine h _ ⟨I.ok,I.os,I.bare,⟨fun b o e n hb hx=>?_,fun b o e n hb hx=>?_,I.base.free,fun b o e hx=>?_,I.base.tups,I.base.frzs,I.base.tbls⟩,⟨_,hn',fun j y v' e1 e2 e3=>?_⟩,fun y c e=>?_,I.free,I.freeC,fun p hp=>?_,tracked ⟨oL,hoL,I.free⟩ hs,by simpa using I.len⟩ ⟨_,hs,.inl rfl⟩
  ·exact(hs.2 b (Nat.ne_of_lt (Nat.lt_of_lt_of_le (Heap.lt_size e) I.ok.above))).trans (I.base.keep b o e n hb hx)
  ·obtain⟨sl,e1⟩:=I.base.slot b o e n hb hx
   exact⟨sl,(hs.2 b (Nat.ne_of_lt (Nat.lt_of_lt_of_le (Heap.lt_size e) I.ok.above))).trans e1⟩
  ·obtain⟨o',e1⟩:=I.base.there b o e hx
   exact⟨o',(hs.2 b (Nat.ne_of_lt (Nat.lt_of_lt_of_le (Heap.lt_size e) I.ok.above))).trans e1⟩
  ·by_cases hj:j=i
   ·subst hj
    rw[hi]at e1;cases e1
    rw[List.getElem?_set_self hiσ]at e2
    cases e2
    exact⟨u,r,.inl ⟨hk,by simp⟩⟩
   ·rw[List.getElem?_set_ne (Ne.symm hj)]at e2
    obtain⟨u',r',q⟩:=hl j y v' e1 e2 e3
    refine⟨u',r',?_⟩
    rcases q with⟨k,e⟩|⟨k,c,e,z⟩
    ·refine .inl ⟨k,?_⟩
     have:y≠x:=fun e=>hj (Zba hN e1 (e▸hi))
     simp[this,e]
    ·exact .inr ⟨k,c,e,z.sameBut hs (cne y c e)⟩
  ·obtain⟨w',z⟩:=I.cell y c e
   exact⟨w',z.sameBut hs (cne y c e)⟩
  ·obtain⟨e,n,ne,nf,d⟩:=I.pin p hp
   exact⟨(hs.2 p.1 ne).trans e,n,ne,nf,d⟩
 ·have hfn:X.fn x=true:=by
   rcases hf with z|z
   ·exact z
   ·rw[z]at hk;cases hk
  obtain⟨c,hc⟩:=I.ok.has x (.inl hk)
  obtain⟨w',z⟩:=I.cell x c hc
  refine wpAny_storeName_cell I.ok.kind hk hc z (fun h' hc' hs=>?_)
  obtain⟨oc,hoc,hocd⟩:=id z
  refine h {s with heap:=h'} ⟨I.ok,I.os,I.bare,⟨fun b o e n hb hx=>?_,fun b o e n hb hx=>?_,I.base.free,fun b o e hx=>?_,I.base.tups,I.base.frzs,I.base.tbls⟩,⟨m,hn.sameBut hs (Ne.symm (cne x c hc)),fun j y v' e1 e2 e3=>?_⟩,fun y c' e=>?_,I.free,I.freeC,fun p hp=>?_,tracked ⟨oc,hoc,I.freeC x c hc⟩ hs,by simpa using I.len⟩ ⟨c,hs,.inr hc⟩
  ·exact(hs.2 b (Nat.ne_of_lt (Nat.lt_of_lt_of_le (Heap.lt_size e) (I.ok.cab x c hfn hc)))).trans (I.base.keep b o e n hb hx)
  ·obtain⟨sl,e1⟩:=I.base.slot b o e n hb hx
   exact⟨sl,(hs.2 b (Nat.ne_of_lt (Nat.lt_of_lt_of_le (Heap.lt_size e) (I.ok.cab x c hfn hc)))).trans e1⟩
  ·obtain⟨o',e1⟩:=I.base.there b o e hx
   exact⟨o',(hs.2 b (Nat.ne_of_lt (Nat.lt_of_lt_of_le (Heap.lt_size e) (I.ok.cab x c hfn hc)))).trans e1⟩
  ·by_cases hj:j=i
   ·subst hj
    rw[hi]at e1;cases e1
    rw[List.getElem?_set_self hiσ]at e2
    cases e2
    exact⟨u,r,.inr ⟨.inl hk,c,hc,hc'⟩⟩
   ·rw[List.getElem?_set_ne (Ne.symm hj)]at e2
    obtain⟨u',r',q⟩:=hl j y v' e1 e2 e3
    refine⟨u',r',?_⟩
    rcases q with q|⟨k,c',e,z'⟩
    ·exact .inl q
    ·refine .inr ⟨k,c',e,z'.sameBut hs ?_⟩
     rintro rfl
     exact hj (Zba hN e1 (I.ok.inj _ _ _ e hc▸hi))
  ·by_cases hcc:c'=c
   ·subst hcc;exact⟨_,hc'⟩
   ·obtain⟨w2,z2⟩:=I.cell y c' e
    exact⟨w2,z2.sameBut hs hcc⟩
  ·obtain⟨e,n,ne,nf,d⟩:=I.pin p hp
   refine⟨(hs.2 p.1 ?_).trans e,n,ne,nf,d⟩
   intro q
   rw[q,hoc]at e
   have q':oc=p.2:=Option.some.inj e
   exact d w' (by rw[<-q'];exact hocd)
theorem YS{M:Model}{A:Around}{E:Value->Shared->Prop}{i:Nat}{x:Str}{v:V}{u:Value}{Q:Unit->Shared->Prop}(I:Inv X pins σ H s)(hN:X.N.Nodup)(hi:X.N[i]?=some x)(hx:Loc X.env.scope x)(r:RelV v u)
  (h:∀s',Inv X pins (σ.set i (some v)) H s'->Q () s') (hf:X.fn x=true\/X.env.scope.names.lookup x=some .local:=by first|exact .inl rfl|exact .inr rfl|assumption):wpAny M A (storeName X.env x u) Q E s:=
 Zeu I hN hi hx r (fun s' I' _=>h s' I') hf
theorem Inv.call'{s':Shared}{ch:List Addr}(I:Inv X pins σ H s)(ho:s'.os=s.os)(u:Un (frs X.stack) ch H H' s.heap s'.heap)(hok:HOk X.prog X.w H' s'.heap)(hg:AllBare s'.gens)
  (hch:∀b∈ch,(b∈X.ex\/X.s₀.heap.objs.size<=b)/\b≠X.env.locals/\(∀x c,X.env.cells.lookup x=some c->c≠b)/\∀p∈X.pn++pins,p.1≠b):Inv X pins σ H' s':=by
 obtain⟨h',g',d',t',o'⟩:=s'
 have e:o'=s.os:=ho
 subst e
 exact I.call (g':=g') (t':=t') (d':=d') u hok hg hch
end
abbrev XK:=Value->Option Addr->Hp->Prop
abbrev St:=List (Option V)
abbrev VK:=V->Hp->Prop
abbrev TE:=St->Hp->VK->Prop
abbrev TT:=St->Hp->(Bool->Hp->Prop)->Prop
abbrev TA:=St->Hp->(List V->Hp->Prop)->Prop
structure Ends where
 nx:St->Hp->Prop
 rt:VK
 bk:St->Hp->Prop:=fun _ _=>False
 ct:St->Hp->Prop:=fun _ _=>False
abbrev TS:=Ends->St->Hp->Prop
def EP(X:Cx)(pins:List (Addr×Obj))(σ:St)(Q:VK)(u:Value)(s':Shared):Prop:=∃v H',Inv X pins σ H' s'/\RelV v u/\Q v H'
def TP(X:Cx)(pins:List (Addr×Obj))(σ:St)(Q:Bool->Hp->Prop)(b:Bool)(s':Shared):Prop:=∃H',Inv X pins σ H' s'/\Q b H'
def AP(X:Cx)(pins:List (Addr×Obj))(σ:St)(Q:List V->Hp->Prop)(us:List Value)(s':Shared):Prop:=∃vs H',Inv X pins σ H' s'/\Vals vs us/\Q vs H'
def SP(X:Cx)(pins:List (Addr×Obj))(D:Ends)(f:Flow)(s':Shared):Prop:=
 match f with
 | .next=>∃σ' H',Inv X pins σ' H' s'/\D.nx σ' H'
 | .brk=>∃σ' H',Inv X pins σ' H' s'/\D.bk σ' H'
 | .cont=>∃σ' H',Inv X pins σ' H' s'/\D.ct σ' H'
 | .ret u=>∃v σ' H',Inv X pins σ' H' s'/\RelV v u/\D.rt v H'
def PE(X:Cx)(e:Expr)(t:TE):Prop:=
 ∀(pins:List (Addr×Obj))(s:Shared)(σ:St)(H:Hp)(Q:VK),Inv X pins σ H s->t σ H Q->wpAny (model X.prog X.w) X.A (eval e X.env) (EP X pins σ Q) X.xe s
def PT(X:Cx)(e:Expr)(t:TT):Prop:=
 ∀(pins:List (Addr×Obj))(s:Shared)(σ:St)(H:Hp)(Q:Bool->Hp->Prop),Inv X pins σ H s->t σ H Q->wpAny (model X.prog X.w) X.A (isTrue e X.env (eval e X.env)) (TP X pins σ Q) X.xe s
def PW(X:Cx)(e:Expr)(t:TT):Prop:=
 ∀(whole:Sem Value)(pins:List (Addr×Obj))(s:Shared)(σ:St)(H:Hp)(Q:Bool->Hp->Prop),Inv X pins σ H s->t σ H Q->wpAny (model X.prog X.w) X.A (isTrue e X.env whole) (TP X pins σ Q) X.xe s
theorem PW.pt{X:Cx}{e:Expr}{t:TT}(h:PW X e t):PT X e t:=h _
def PA(X:Cx)(es:List Expr)(t:TA):Prop:=
 ∀(pos:Pos)(pins:List (Addr×Obj))(s:Shared)(σ:St)(H:Hp)(Q:List V->Hp->Prop),Inv X pins σ H s->t σ H Q->wpAny (model X.prog X.w) X.A (spliced (backTo pos (starEach es X.env))) (AP X pins σ Q) X.xe s
def PS(X:Cx)(st:Stmt)(t:TS):Prop:=
 ∀(pins:List (Addr×Obj))(s:Shared)(σ:St)(H:Hp)(D:Ends),Inv X pins σ H s->t D σ H->wpAny (model X.prog X.w) X.A (exec st X.env) (SP X pins D) X.xe s
def PSs(X:Cx)(st:List Stmt)(t:TS):Prop:=
 ∀(pins:List (Addr×Obj))(s:Shared)(σ:St)(H:Hp)(D:Ends),Inv X pins σ H s->t D σ H->wpAny (model X.prog X.w) X.A (execs st X.env) (SP X pins D) X.xe s
theorem thn{α:Type}{t:Sem α}{Q Q':α->Shared->Prop}{M:Model}{A:Around}{E:Value->Shared->Prop}{s:Shared}(h:wpAny M A t Q E s)(hQ:∀a s,Q a s->Q' a s):wpAny M A t Q' E s:=wpAny_mono h hQ fun _ _ x=>x
section
variable{X:Cx}
theorem bin{a b:Expr}{ta tb:TE}(ha:PE X a ta)(hb:PE X b tb){pins:List (Addr×Obj)}{s:Shared}{σ:St}{H:Hp}{R:V->V->Hp->Prop}(I:Inv X pins σ H s)(h:ta σ H fun x H1=>tb σ H1 fun y H2=>R x y H2)
  {α:Type} {Q:α->Shared->Prop} {f:Value->Value->Sem α}
  (hf:∀v u s2 x y H2,Inv X pins σ H2 s2->RelV x v->RelV y u->R x y H2->wpAny (model X.prog X.w) X.A (f v u) Q X.xe s2):
  wpAny (model X.prog X.w) X.A (eval a X.env) (fun v s₁=>wpAny (model X.prog X.w) X.A (eval b X.env) (fun u s₂=>wpAny (model X.prog X.w) X.A (f v u) Q X.xe s₂) X.xe s₁) X.xe s:=by
 refine thn (ha pins s σ H _ I h) fun v s1 xq1=>?_
 obtain⟨x,H1,I1,r1,q1⟩:=xq1
 refine thn (hb pins s1 σ H1 _ I1 q1) fun u s2 xq1=>?_
 obtain⟨y,H2,I2,r2,q2⟩:=xq1
 exact hf v u s2 x y H2 I2 r1 r2 q2
inductive Ja(i:Nat)(σ:St)(H:Hp)(Q:VK):Prop
 |mk (v:_) (_:σ[i]?=some (some v)) (_:Q v H)
def tC(v:V):TE:=fun _ H Q=>Q v H
theorem Zi5{i:Nat}{x:Str}{pos:Pos}(hN:X.N[i]?=some x)(hv:Vis X.env.scope x)(hd:(x==("__debug__":Str))=false:=by decide)(hcd:(x==("__classdict__":Str))=false:=by decide):PE X (.Name x pos) (Ja i):=by
 intro pins s σ H Q I h
 obtain⟨v,e,h⟩:=h
 obtain⟨m,hn,hl⟩:=I.loc
 obtain⟨u,r,l⟩:=hl i x v hN e hv
 have fin:EP X pins σ Q u s:=⟨v,H,I,r,h⟩
 rcases l with⟨hk,hm⟩|⟨hk,c,hc,hcell⟩
 ·exact wpAny_Name (wpAny_loadName_local I.ok.kind hk hn hm fin) hd
 ·rcases hk with hk|hk
  ·exact wpAny_Name (wpAny_loadName_cell I.ok.kind hk hc hcell fin) hd
  ·exact wpAny_Name (wpAny_loadName_free I.ok.kind hk hc hcell fin hcd) hd
theorem Ze{i j pos}:PE X (.Constant (.int i) j pos) (tC (.int i)):=fun _ _ _ H _ I h=>wpAny_Constant_int ⟨.int i,H,I.tok _,⟨_,rfl⟩,h⟩
theorem ZE{b j pos}:PE X (.Constant (.bool b) j pos) (tC (.bl b)):=fun _ _ _ H _ I h=>Constant_bool ⟨.bl b,H,I,rfl,h⟩
theorem ZM{j pos}:PE X (.Constant .none j pos) (tC .non):=fun _ _ _ H _ I h=>Constant_none ⟨.non,H,I,rfl,h⟩
theorem ZT{x j pos}:PE X (.Constant (.str x) j pos) (tC (.str x)):=fun _ _ _ H _ I h=>Calls.Constant_str ⟨.str x,H,I.tok _,⟨_,rfl⟩,h⟩
def Gl(X:Cx)(x:Str):Prop:=X.env.kindOf x=some .globalImplicit
theorem YJ{E:Value->Shared->Prop}{pins:List (Addr×Obj)}{s:Shared}{σ:St}{H:Hp}{x:Str}{u:Value}{pos:Pos}{Q:Value->Shared->Prop}(I:Inv X pins σ H s)(hg:Gl X x)(hm:X.mg x=some u)(h:Q u s)
  (hd:(x==("__debug__":Str))=false:=by decide):wpAny (model X.prog X.w) X.A (eval (.Name x pos) X.env) Q E s:=
 Calls.Name_function_global I.ok.kind hg (Calls.loadGlobal_global (by rw[I.ok.glob];exact I.mod.glob.keeps I.bk) hm h) hd
theorem Yy{E:Value->Shared->Prop}{pins:List (Addr×Obj)}{s:Shared}{σ:St}{H:Hp}{x:Str}{u:Value}{pos:Pos}{Q:Value->Shared->Prop}(I:Inv X pins σ H s)(hg:Gl X x)(hm:X.mg x=none)(hv:bootBuiltins x=some u)(h:Q u s)
  (hn:x≠"__name__":=by decide)(hd:(x==("__debug__":Str))=false:=by decide):wpAny (model X.prog X.w) X.A (eval (.Name x pos) X.env) Q E s:=by
 obtain⟨mb,h1,h2⟩:=I.mod.blt
 exact Calls.Name_function_global I.ok.kind hg (Calls.loadGlobal_builtin (by rw[I.ok.glob];exact I.mod.glob.keeps I.bk) hm (by rw[I.ok.blt];exact h1.keeps I.bk) ((h2 x hn).trans hv) h) hd
theorem Ym{x:Str}{v:V}{u:Value}{pos:Pos}(hg:Gl X x)(hm:X.mg x=some u)(r:RelV v u)(hd:(x==("__debug__":Str))=false:=by decide):PE X (.Name x pos) (tC v):=
 fun _ _ _ H _ I h=>YJ I hg hm ⟨v,H,I,r,h⟩ hd
theorem Yr{x:Str}{v:V}{u:Value}{pos:Pos}(hg:Gl X x)(hm:X.mg x=none)(hv:bootBuiltins x=some u)(r:RelV v u)(hn:x≠"__name__":=by decide)(hd:(x==("__debug__":Str))=false:=by decide):PE X (.Name x pos) (tC v):=
 fun _ _ _ H _ I h=>Yy I hg hm hv ⟨v,H,I,r,h⟩ hn hd
variable{a b:Expr}{ta tb:TE}{pos:Pos}
def PC(X:Cx)(op:CmpOp)(a b:Expr)(t:TE):Prop:=
 ∀(pins:List (Addr×Obj))(s:Shared)(σ:St)(H:Hp)(Q:VK),Inv X pins σ H s->t σ H Q->
  wpAny (model X.prog X.w) X.A (eval a X.env) (fun v s₁=>wpAny (model X.prog X.w) X.A (eval b X.env) (fun u s₂=>wpAny (model X.prog X.w) X.A (compareOp op v u) (EP X pins σ Q) X.xe s₂) X.xe s₁) X.xe s
theorem ZfD(b:Expr){op:CmpOp}(h:op≠.In)(h2:op≠.NotIn):behindInMarks op b=false:=by
 have e1:(op==CmpOp.In)=false:=by cases op<;>first|rfl|exact absurd rfl h
 have e2:(op==CmpOp.NotIn)=false:=by cases op<;>first|rfl|exact absurd rfl h2
 cases b<;>simp[behindInMarks,e1,e2]
def tB(t:TE):TT:=fun σ H Q=>t σ H fun x H1=>∃c,x= .bl c/\Q c H1
theorem JE{op:CmpOp}{t:TE}(h:PC X op a b t)(h1:behindInMarks op b=false:=by first|exact ZfD _ (by decide) (by decide)|rfl):PT X (.Compare a [op] [b] pos) (tB t):=by
 intro pins s σ H Q I hw
 refine wpAny_isTrue_Compare1 (thn (h pins s σ H _ I hw) fun v s1 h1=>thn h1 fun u s2 h2=>thn h2 fun c s3 xq1=>?_) h1
 obtain⟨x,H1,I1,r1,q1⟩:=xq1
 obtain⟨d,rfl,q⟩:=q1
 cases r1
 exact wpAny_truthy_bool ⟨H1,I1,q⟩
theorem ZS{e:Expr}{t:TE}(h:PE X e t)(he:∀whole,isTrue e X.env whole=(do let v<-whole;standAt e.pos;holding [v] (truthy v)):=by intro _;rfl):PT X e (tB t):=by
 intro pins s σ H Q I hw
 refine isTrue_plain (thn (h pins s σ H _ I hw) fun v s1 xq1=>?_) (he _)
 obtain⟨x,H1,I1,r1,q1⟩:=xq1
 obtain⟨d,rfl,q⟩:=q1
 cases r1
 exact wpAny_truthy_bool ⟨H1,I1,q⟩
variable{tA tB':TT}{rest:List Expr}
def Zly(t u:TT):TT:=fun σ H Q=>t σ H fun c H1=>if c=true then u σ H1 Q else Q false H1
def tOr(t u:TT):TT:=fun σ H Q=>t σ H fun c H1=>if c=true then Q true H1 else u σ H1 Q
def Zlp(t:TT):TT:=fun σ H Q=>t σ H fun c H1=>Q (!c) H1
theorem pw_and1(ha:PT X a tA):PW X (.BoolOp .And [a] pos) tA:=by
 intro wh pins s σ H Q I h
 refine isTrue_and (thn (ha pins s σ H Q I h) fun c s1 e=>?_)
 cases c with
 |true=>exact isTrue_and_nil e
 |false=>exact e
theorem pw_or1(ha:PT X a tA):PW X (.BoolOp .Or [a] pos) tA:=by
 intro wh pins s σ H Q I h
 refine isTrue_or (thn (ha pins s σ H Q I h) fun c s1 e=>?_)
 cases c with
 |false=>exact isTrue_or_nil e
 |true=>exact e
theorem pw_and(ha:PT X a tA)(hb:PW X (.BoolOp .And (b::rest) pos) tB'):PW X (.BoolOp .And (a::b::rest) pos) (Zly tA tB'):=by
 intro wh pins s σ H Q I h
 refine isTrue_and (thn (ha pins s σ H _ I h) fun c s1 xq1=>?_)
 obtain⟨H1,I1,q1⟩:=xq1
 cases c with
 |true=>exact hb wh pins s1 σ H1 Q I1 q1
 |false=>exact⟨H1,I1,q1⟩
theorem pw_or(ha:PT X a tA)(hb:PW X (.BoolOp .Or (b::rest) pos) tB'):PW X (.BoolOp .Or (a::b::rest) pos) (tOr tA tB'):=by
 intro wh pins s σ H Q I h
 refine isTrue_or (thn (ha pins s σ H _ I h) fun c s1 xq1=>?_)
 obtain⟨H1,I1,q1⟩:=xq1
 cases c with
 |true=>exact⟨H1,I1,q1⟩
 |false=>exact hb wh pins s1 σ H1 Q I1 q1
theorem Yc(ha:PT X a tA):PT X (.UnaryOp .Not a pos) (Zlp tA):=by
 intro pins s σ H Q I h
 exact isTrue_not (ha pins s σ H (fun c H1=>Q (!c) H1) I h)
def Zj5(ta tb:TE):TE:=fun σ H Q=>ta σ H fun x H1=>∃c,x= .bl c/\if c=true then tb σ H1 Q else Q (.bl false) H1
def Zlo(ta tb:TE):TE:=fun σ H Q=>ta σ H fun x H1=>∃c,x= .bl c/\if c=true then Q (.bl true) H1 else tb σ H1 Q
def Zjw(ta:TE):TE:=fun σ H Q=>ta σ H fun x H1=>∃c,x= .bl c/\Q (.bl (!c)) H1
theorem ZaT{op}{t:TE}(h:PE X a t):PE X (.BoolOp op [a] pos) t:=fun pins s σ H Q I hw=>BoolOp_one (h pins s σ H Q I hw)
theorem Zao(ha:PE X a ta)(hb:PE X (.BoolOp .And (b::rest) pos) tb):PE X (.BoolOp .And (a::b::rest) pos) (Zj5 ta tb):=by
 intro pins s σ H Q I h
 refine BoolOp_and (thn (ha pins s σ H _ I h) fun v s1 xq1=>?_)
 obtain⟨x,H1,I1,r1,q1⟩:=xq1
 obtain⟨c,rfl,q1⟩:=q1
 cases r1
 refine wpAny_truthy_bool ?_
 cases c with
 |true=>exact hb pins s1 σ H1 Q I1 q1
 |false=>exact⟨.bl false,H1,I1,rfl,q1⟩
theorem ZjK(ha:PE X a ta)(hb:PE X (.BoolOp .Or (b::rest) pos) tb):PE X (.BoolOp .Or (a::b::rest) pos) (Zlo ta tb):=by
 intro pins s σ H Q I h
 refine BoolOp_or (thn (ha pins s σ H _ I h) fun v s1 xq1=>?_)
 obtain⟨x,H1,I1,r1,q1⟩:=xq1
 obtain⟨c,rfl,q1⟩:=q1
 cases r1
 refine wpAny_truthy_bool ?_
 cases c with
 |false=>exact hb pins s1 σ H1 Q I1 q1
 |true=>exact⟨.bl true,H1,I1,rfl,q1⟩
theorem Zi6(ha:PE X a ta):PE X (.UnaryOp .Not a pos) (Zjw ta):=by
 intro pins s σ H Q I h
 refine UnaryOp_ (thn (ha pins s σ H _ I h) fun v s1 xq1=>?_)
 obtain⟨x,H1,I1,r1,q1⟩:=xq1
 obtain⟨c,rfl,q1⟩:=q1
 cases r1
 exact not_of (wpAny_truthy_bool ⟨.bl (!c),H1,I1,rfl,q1⟩)
def tIf(t:TT)(ta tb:TE):TE:=fun σ H Q=>t σ H fun c H1=>if c=true then ta σ H1 Q else tb σ H1 Q
theorem JU{c:Expr}(hc:PT X c tA)(ha:PE X a ta)(hb:PE X b tb):PE X (.IfExp c a b pos) (tIf tA ta tb):=by
 intro pins s σ H Q I h
 refine wpAny_IfExp (thn (hc pins s σ H _ I h) fun d s1 xq1=>?_)
 obtain⟨H1,I1,q1⟩:=xq1
 cases d with
 |true=>exact ha pins s1 σ H1 Q I1 q1
 |false=>exact hb pins s1 σ H1 Q I1 q1
end
def SqL(K:PySem.W.Frag)(H:Hp)(a:Addr)(xs:List V):Prop:=
 Rd H a (.lst xs)\/
  ∃(o:Obj)(its:Array Value)(n:Nat),K.lookup a=some o/\o.cls= .type "list"/\o.dict=none/\o.data= .seq its n/\its.size<=sizeLine/\Vals xs its.toList
def SqT(K:PySem.W.Frag)(H:Hp)(a:Addr)(xs:List V):Prop:=
 Rd H a (.tup xs)\/
  ∃(o:Obj)(its:Array Value)(n:Nat),K.lookup a=some o/\o.cls= .type "tuple"/\o.data= .seq its n/\its.size<=sizeLine/\Vals xs its.toList
def Zmc:Value->Option V
 | .none=>some .non
 | .bool b=>some (.bl b)
 | .int i _=>some (.int i)
 | .str x _=>some (.str x)
 | .bytes b _=>some (.byt b)
 | .float b _=>some (.flt b)
 | .ref a=>some (.ref a)
 | .type n=>some (.ty n)
 |_=>none
theorem RelV.abs{x:V}{u:Value}(r:RelV x u):Zmc u=some x:=by
 cases x with
 |non=>cases r;rfl
 |bl _=>cases r;rfl
 |int _=>obtain⟨t,rfl⟩:=r;rfl
 |str _=>obtain⟨t,rfl⟩:=r;rfl
 |byt _=>obtain⟨t,rfl⟩:=r;rfl
 |flt _=>obtain⟨t,rfl⟩:=r;rfl
 |ref _=>cases r;rfl
 |ty _=>cases r;rfl
theorem RelV.inj{x y:V}{u:Value}(r:RelV x u)(q:RelV y u):x=y:=Option.some.inj (r.abs.symm.trans q.abs)
theorem Vals.inj:∀{xs ys:List V}{us:List Value},Vals xs us->Vals ys us->xs=ys
 |_,_,_,.nil,.nil=>rfl
 |_,_,_,.cons r t,.cons r' t'=>by rw[r.inj r',Vals.inj t t']
section
variable{X:Cx}{pins:List (Addr×Obj)}{σ:St}{H:Hp}{s:Shared}{a:Addr}{xs ys:List V}
theorem SqL.of{K:PySem.W.Frag}(h:H a=some (.lst xs)):SqL K H a xs:= .inl (.inl h)
theorem SqT.of{K:PySem.W.Frag}(h:H a=some (.tup xs)):SqT K H a xs:= .inl (.inl h)
theorem Inv.list(I:Inv X pins σ H s)(h:SqL X.K H a xs):∃its:List Value,Vals xs its/\PlainL s.heap a its.toArray/\xs.length<=sizeLine:=by
 rcases h with h|⟨o,its,n,hk,hc,hd,hs,hz,r⟩
 ·obtain⟨z,its,n,r,e⟩:=h.ok I.hok
  exact⟨its,r,⟨_,n,e,rfl,rfl,rfl⟩,z⟩
 ·refine⟨its.toList,r,⟨o,n,I.kIn a o hk,hc,hd,by simpa using hs⟩,?_⟩
  have e:=r.length
  simp only[Array.length_toList]at e
  omega
theorem Inv.tuple(I:Inv X pins σ H s)(h:SqT X.K H a xs):∃its:List Value,Vals xs its/\IsTup s.heap a its.toArray/\xs.length<=sizeLine:=by
 rcases h with h|⟨o,its,n,hk,hc,hs,hz,r⟩
 ·obtain⟨z,its,r,p⟩:=h.ok I.hok
  exact⟨its,r,p,z⟩
 ·refine⟨its.toList,r,⟨o,I.kIn a o hk,hc,n,by simpa using hs⟩,?_⟩
  have e:=r.length
  simp only[Array.length_toList]at e
  omega
theorem Inv.list_inj(I:Inv X pins σ H s)(h:SqL X.K H a xs)(h':SqL X.K H a ys):xs=ys:=by
 obtain⟨its,r,⟨o,n,e,_,_,d⟩,_⟩:=I.list h
 obtain⟨its',r',⟨o',n',e',_,_,d'⟩,_⟩:=I.list h'
 rw[e]at e';cases e'
 rw[d]at d'
 injection d' with d1 _
 have:its=its':=by simpa using congrArg Array.toList d1
 subst this
 exact r.inj r'
theorem Inv.tuple_inj(I:Inv X pins σ H s)(h:SqT X.K H a xs)(h':SqT X.K H a ys):xs=ys:=by
 obtain⟨its,r,⟨o,e,_,n,d⟩,_⟩:=I.tuple h
 obtain⟨its',r',⟨o',e',_,n',d'⟩,_⟩:=I.tuple h'
 rw[e]at e';cases e'
 rw[d]at d'
 injection d' with d1 _
 have:its=its':=by simpa using congrArg Array.toList d1
 subst this
 exact r.inj r'
end
abbrev Cx.wish(X:Cx)(E:Value->Shared->Prop):Cx:={X with xe:=E}
abbrev Cx.nox(X:Cx):Cx:=X.wish fun _ _=>False
theorem Cx.Ok.wish{X:Cx}(ok:X.Ok)(E:Value->Shared->Prop):(X.wish E).Ok:=
 ⟨ok.mod,ok.kind,ok.glob,ok.blt,ok.above,ok.inj,ok.has,ok.cab,ok.hd,ok.frames,ok.stk,ok.exf,ok.bs,ok.bsz,ok.noex,ok.exfs,ok.funs,ok.frf⟩
theorem Cx.Ok.unwish{X:Cx}{E:Value->Shared->Prop}(ok:(X.wish E).Ok):X.Ok:=
 ⟨ok.mod,ok.kind,ok.glob,ok.blt,ok.above,ok.inj,ok.has,ok.cab,ok.hd,ok.frames,ok.stk,ok.exf,ok.bs,ok.bsz,ok.noex,ok.exfs,ok.funs,ok.frf⟩
section
variable{X:Cx}{pins:List (Addr×Obj)}{σ:St}{H:Hp}{s:Shared}{E:Value->Shared->Prop}
theorem Inv.wish(I:Inv X pins σ H s)(E:Value->Shared->Prop):Inv (X.wish E) pins σ H s:=⟨I.ok.wish E,I.os,I.bare,I.base,I.loc,I.cell,I.free,I.freeC,I.pin,I.hok,I.len⟩
theorem Inv.unwish(I:Inv (X.wish E) pins σ H s):Inv X pins σ H s:=⟨I.ok.unwish,I.os,I.bare,I.base,I.loc,I.cell,I.free,I.freeC,I.pin,I.hok,I.len⟩
theorem SP.unwish{D:Ends}{f:Flow}{s':Shared}(h:SP (X.wish E) pins D f s'):SP X pins D f s':=by
 cases f with
 |next=>obtain⟨σ',H',I,q⟩:=h;exact⟨σ',H',I.unwish,q⟩
 |brk=>obtain⟨σ',H',I,q⟩:=h;exact⟨σ',H',I.unwish,q⟩
 |cont=>obtain⟨σ',H',I,q⟩:=h;exact⟨σ',H',I.unwish,q⟩
 |ret u=>obtain⟨v,σ',H',I,r,q⟩:=h;exact⟨v,σ',H',I.unwish,r,q⟩
theorem PT.nox{e:Expr}{t:TT}(h:PT X.nox e t):PT X e t:=fun pins s σ H Q I hw=>
 wpAny_mono (h pins s σ H Q (I.wish _) hw) (fun _ _⟨H',I',q⟩=>⟨H',I'.unwish,q⟩) fun _ _ z=>False.elim z
theorem PSs.nox{st:List Stmt}{t:TS}(h:PSs X.nox st t):PSs X st t:=fun pins s σ H D I hw=>
 wpAny_mono (h pins s σ H D (I.wish _) hw) (fun _ _ q=>q.unwish) fun _ _ z=>False.elim z
end
section
variable{X:Cx}{st:Stmt}{rest:List Stmt}{t u:TS}{e:Expr}{te:TE}{pos:Pos}
def tNext:TS:=fun D σ H=>D.nx σ H
def Zjt(t u:TS):TS:=fun D σ H=>t {D with nx:=u D} σ H
theorem Zt:PSs X [] tNext:=fun _ _ σ H _ I h=>wpAny_execs_nil ⟨σ,H,I,h⟩
theorem Zb(h1:PS X st t)(h2:PSs X rest u):PSs X (st::rest) (Zjt t u):=by
 intro pins s σ H D I h
 refine wpAny_execs_cons (thn (h1 pins s σ H {D with nx:=u D} I h) fun f s1 q=>?_)
 cases f with
 |next=>
  obtain⟨σ',H',I',q⟩:=q
  exact h2 pins s1 σ' H' D I' q
 |ret v=>exact q
 |brk=>exact q
 |cont=>exact q
theorem Zg(h1:PS X st t):PSs X [st] t:=by
 intro pins s σ H D I h
 refine wpAny_execs_cons (thn (h1 pins s σ H D I h) fun f s1 q=>?_)
 cases f with
 |next=>exact wpAny_execs_nil q
 |ret v=>exact q
 |brk=>exact q
 |cont=>exact q
theorem Inv.quiet{pins:List (Addr×Obj)}{σ:St}{H:Hp}{s:Shared}(I:Inv X pins σ H s):interactive X.env=false:=by simp[interactive,I.ok.kind]
def Zj3(te:TE):TS:=fun D σ H=>te σ H fun _ H1=>D.nx σ H1
theorem ZH(he:PE X e te)(hs:swapsWith e none pos.line X.env=pure false:=by rfl):PS X (.Expr e pos) (Zj3 te):=by
 intro pins s σ H D I h
 exact wpAny_Expr_any (thn (he pins s σ H _ I h) fun v s1⟨x,H1,I1,r1,q1⟩=>⟨σ,H1,I1,q1⟩) I.quiet hs
def Zju(te:TE):TS:=fun D σ H=>te σ H D.rt
theorem Zs(he:PE X e te):PS X (.Return (some e) pos) (Zju te):=by
 intro pins s σ H D I h
 exact wpAny_Return_some (thn (he pins s σ H _ I h) fun v s1⟨x,H1,I1,r1,q1⟩=>⟨x,σ,H1,I1,r1,q1⟩)
def Zlt(c:TT)(t u:TS):TS:=fun D σ H=>c σ H fun b H1=>if b=true then t D σ H1 else u D σ H1
theorem Z0{c:Expr}{a b:List Stmt}{tc:TT}(hc:PT X c tc)(ha:PSs X a t)(hb:PSs X b u):PS X (.If c a b pos) (Zlt tc t u):=by
 intro pins s σ H D I h
 refine wpAny_If (thn (hc pins s σ H _ I h) fun d s1 xq1=>?_)
 obtain⟨H1,I1,q1⟩:=xq1
 cases d with
 |true=>exact ha pins s1 σ H1 D I1 q1
 |false=>exact hb pins s1 σ H1 D I1 q1
def tNever:TS:=fun _ _ _=>False
theorem Z8{sts:List Stmt}:PSs X sts tNever:=fun _ _ _ _ _ _ h=>h.elim
end
abbrev TG:=V->St->Hp->(St->Hp->Prop)->Prop
abbrev TGs:=List V->St->Hp->(St->Hp->Prop)->Prop
def PG(X:Cx)(target:Expr)(t:TG):Prop:=
 ∀(pins:List (Addr×Obj))(s:Shared)(σ:St)(H:Hp)(v:V)(u:Value)(Q:St->Hp->Prop),Inv X pins σ H s->RelV v u->t v σ H Q->
  wpAny (model X.prog X.w) X.A (assign target X.env u) (fun _ s'=>∃σ' H',Inv X pins σ' H' s'/\Q σ' H') X.xe s
def PGs(X:Cx)(ts:List Expr)(t:TGs):Prop:=
 ∀(pins:List (Addr×Obj))(s:Shared)(σ:St)(H:Hp)(vs:List V)(us:List Value)(Q:St->Hp->Prop),Inv X pins σ H s->Vals vs us->t vs σ H Q->
  wpAny (model X.prog X.w) X.A (assignInOrder ((assignEach ts X.env).map (·.2)) us) (fun _ s'=>∃σ' H',Inv X pins σ' H' s'/\Q σ' H') X.xe s
abbrev Zgx:=V->V->V->Hp->(Hp->Prop)->Prop
def ZhA(X:Cx)(t:Zgx):Prop:=
 ∀(pins:List (Addr×Obj))(s:Shared)(σ:St)(H:Hp)(o i v:V)(ov iv u:Value)(Q:Hp->Prop),Inv X pins σ H s->RelV o ov->RelV i iv->RelV v u->t o i v H Q->
  wpAny (model X.prog X.w) X.A (setItem ov iv u) (fun _ s'=>∃H',Inv X pins σ H' s'/\Q H') X.xe s
abbrev TIp:=V->V->Hp->VK->Prop
def PIp(X:Cx)(op:Operator)(t:TIp):Prop:=
 ∀(pins:List (Addr×Obj))(s:Shared)(σ:St)(H:Hp)(x y:V)(v u:Value)(Q:VK),Inv X pins σ H s->RelV x v->RelV y u->t x y H Q->
  wpAny (model X.prog X.w) X.A (inplaceOp op v u) (EP X pins σ Q) X.xe s
section
variable{X:Cx}{pos:Pos}
def JY(i:Nat):TG:=fun v σ H Q=>Q (σ.set i (some v)) H
theorem Zq{i:Nat}{x:Str}(hN:X.N.Nodup)(hi:X.N[i]?=some x)(hx:Loc X.env.scope x)(hf:X.fn x=true\/X.env.scope.names.lookup x=some .local:=by first|exact .inl rfl|exact .inr rfl|assumption):PG X (.Name x pos) (JY i):=by
 intro pins s σ H v u Q I r h
 exact wpAny_assign_Name (YS I hN hi hx r (fun s' I'=>⟨_,H,I',h⟩) hf)
def gNil:TGs:=fun vs σ H Q=>vs=[]/\Q σ H
def ZkJ(t:TG)(u:TGs):TGs:=fun vs σ H Q=>∃v r,vs=v::r/\t v σ H fun σ' H'=>u r σ' H' Q
theorem Ya:PGs X [] gNil:=by
 intro pins s σ H vs us Q I r h
 obtain⟨e,h⟩:=h
 subst e
 cases r
 exact assignInOrder_nil ⟨σ,H,I,h⟩
theorem Zy{e:Expr}{es:List Expr}{t:TG}{u:TGs}(h1:PG X e t)(h2:PGs X es u)
  (hs:(assignEach (e::es) X.env).map (·.2)=assign e X.env::(assignEach es X.env).map (·.2):=by rfl):PGs X (e::es) (ZkJ t u):=by
 intro pins s σ H vs us Q I r h
 obtain⟨v,vr,e1,h⟩:=h
 subst e1
 cases r with
 |cons r rr=>
  rw[hs]
  refine assignInOrder_cons (thn (h1 pins s σ H _ _ _ I r h) fun _ s1 xq1=>?_)
  obtain⟨σ1,H1,I1,q1⟩:=xq1
  exact h2 pins s1 σ1 H1 _ _ Q I1 rr q1
def ZkI(K:PySem.W.Frag)(n:Nat)(t:TGs):TG:=fun v σ H Q=>∃a xs,v= .ref a/\SqT K H a xs/\xs.length=n/\t xs σ H Q
theorem YB{es:List Expr}{k:Nat}{t:TGs}{n:Nat}(hc:X.calm=true)(h:PGs X es t)
  (hn:(assignEach es X.env).length=n:=by rfl)(hst:(assignEach es X.env).findIdx? (·.1)=none:=by rfl):PG X (.Tuple es k pos) (ZkI X.K n t):=by
 intro pins s σ H v u Q I r hw
 obtain⟨a,xs,e1,hq,hl,hw⟩:=hw
 subst e1
 cases r
 obtain⟨its,rv,ht,hz⟩:=I.tuple hq
 refine assign_Tuple_tuple (I.ok.hd hc) ht (by simp[hn,<-hl,rv.length]) hst fun h' hx=>?_
 have I1:Inv X pins σ H {s with heap:=h'}:=I.kept (t':=s.toks) fun b o e=>hx b o (Nat.ne_of_lt (Heap.lt_size e)) e
 exact h pins _ σ H xs _ Q I1 (by simpa using rv) hw
def ZlX(to ti:TE)(t:Zgx):TG:=fun v σ H Q=>to σ H fun o H1=>ti σ H1 fun i H2=>t o i v H2 fun H3=>Q σ H3
theorem Jd{o i:Expr}{to ti:TE}{t:Zgx}(ho:PE X o to)(hi:PE X i ti)(hs:ZhA X t)
  (ha:∀v,assign (.Subscript o i pos) X.env v=(do
   let ov<-holding [v] (eval o X.env)
   let iv<-holding [v,ov] (eval i X.env)
   standAt pos
   holding [v,ov,iv] (setItem ov iv v)
   release [v,ov,iv] []):=by intro _;rfl):PG X (.Subscript o i pos) (ZlX to ti t):=by
 intro pins s σ H v u Q I r h
 rw[ha]
 refine wpAny_bind (wpAny_holding (thn (ho pins s σ H _ I h) fun ov s1 xq1=>?_))
 obtain⟨x,H1,I1,r1,q1⟩:=xq1
 refine wpAny_bind (wpAny_holding (thn (hi pins s1 σ H1 _ I1 q1) fun iv s2 xq1=>?_))
 obtain⟨y,H2,I2,r2,q2⟩:=xq1
 refine wpAny_bind (wpAny_standAt (wpAny_bind (wpAny_holding (thn (hs pins s2 σ H2 x y v ov iv u _ I2 r1 r2 r q2) fun _ s3 xq1=>?_))))
 obtain⟨H3,I3,q3⟩:=xq1
 exact wpAny_release ⟨σ,H3,I3,q3⟩
def Zet(te:TE)(g:TG):TS:=fun D σ H=>te σ H fun x H1=>g x σ H1 D.nx
theorem Yq{tg e:Expr}{te:TE}{g:TG}(he:PE X e te)(hg:PG X tg g)(hs:swapsWithSole [tg] e pos.line X.env=pure false:=by rfl)(hw:swappedStores [tg] e X.env=pure none:=by rfl)
  (h1:(assignEach [tg] X.env).map (·.2)=[assign tg X.env]:=by rfl):PS X (.Assign [tg] e pos) (Zet te g):=by
 intro pins s σ H D I h
 refine wpAny_Assign_stores (thn (he pins s σ H _ I h) fun v s1 xq1=>?_) hs hw
 obtain⟨x,H1,I1,r1,q1⟩:=xq1
 rw[h1]
 exact thn (hg pins s1 σ H1 x v _ I1 r1 q1) fun _ s2 q=>q
theorem Zj{i:Nat}{x:Str}{e:Expr}{te:TE}{pos':Pos}(hN:X.N.Nodup)(hi:X.N[i]?=some x)(hx:Loc X.env.scope x)(he:PE X e te)(hs:swapsWith e (some (.Name x pos')) pos.line X.env=pure false:=by rfl)(hf:X.fn x=true\/X.env.scope.names.lookup x=some .local:=by first|exact .inl rfl|exact .inr rfl|assumption):
  PS X (.Assign [.Name x pos'] e pos) (Zet te (JY i)):=by
 intro pins s σ H D I h
 refine wpAny_Assign_Name (thn (he pins s σ H _ I h) fun v s1 xq1=>?_) hs
 obtain⟨y,H1,I1,r1,q1⟩:=xq1
 exact YS I1 hN hi hx r1 (fun s2 I2=>⟨_,H1,I2,q1⟩) hf
def Zln(i j:Nat)(ta:TA):TS:=fun D σ H=>ta σ H fun vs H1=>∃v w,vs=[v,w]/\D.nx ((σ.set i (some v)).set j (some w)) H1
theorem Ziz{i j:Nat}{x y:Str}{a b:Expr}{ta:TA}{px py pt:Pos}{kt k2 pt2}(hc:X.calm=true)(hN:X.N.Nodup)(hi:X.N[i]?=some x)(hj:X.N[j]?=some y)(hij:i≠j)
  (hx:X.env.scope.names.lookup x=some .local)(hy:X.env.scope.names.lookup y=some .local)(ha:PA X [a,b] ta)
  (hw:swappedStores [.Tuple [.Name x px,.Name y py] kt pt] (.Tuple [a,b] k2 pt2) X.env=pure (some [x,y]))
  (hs:swapsWithSole [.Tuple [.Name x px,.Name y py] kt pt] (.Tuple [a,b] k2 pt2) pos.line X.env=pure false:=by rfl):
  PS X (.Assign [.Tuple [.Name x px,.Name y py] kt pt] (.Tuple [a,b] k2 pt2) pos) (Zln i j ta):=by
 intro pins s σ H D I h
 rw[exec_Assign_arm]
 refine wpAny_bind (wpAny_standAt ?_)
 rw[hs]
 refine wpAny_bind (wpAny_pure ?_)
 rw[if_neg (by decide)]
 refine wpAny_bind (Tuple_ (thn (ha _ pins s σ H _ I h) fun us s1 xq1=>?_))
 obtain⟨vs,H1,I1,r1,q1⟩:=xq1
 obtain⟨v,w,e1,q1⟩:=q1
 subst e1
 obtain⟨u1,u2,rfl,rv,rw'⟩:∃u1 u2,us=[u1,u2]/\RelV v u1/\RelV w u2:=by
  cases r1 with
  |cons p q=>
   cases q with
   |cons p' q'=>
    cases q'
    exact⟨_,_,rfl,p,p'⟩
 refine wpAny_newObj_type ?_ (by show 2<=sizeLine;decide)
 have I2:Inv X pins σ H1 {s1 with heap:=s1.heap.push {cls:= .type "tuple",data:= .seq [u1,u2].toArray}}:=I1.kept (t':=s1.toks) fun b o e=>Heap.get?_push_of_some _ e
 rw[hw]
 refine wpAny_bind (wpAny_pure ?_)
 show wpAny (model X.prog X.w) X.A (do rule "assign.swapped-stores";let items<-unpackItems (.ref s1.heap.objs.size) 2 none;assignInOrder [fun v=>bindName X.env y v,fun v=>bindName X.env x v] items.reverse;pure Flow.next) _ _ _
 refine wpAny_bind (wpAny_rule (wpAny_bind (unpackItems_tuple (items:=#[u1,u2]) (I.ok.hd hc) (IsTup.new s1.heap _) fun h' hx'=>?_)))
 have I3:=I2.kept (h':=h') (t':=s1.toks) fun b o e=>hx' b o (Nat.ne_of_lt (Heap.lt_size e)) e
 show wpAny _ _ (assignInOrder [fun v=>bindName X.env y v,fun v=>bindName X.env x v] [u2,u1]>>=fun _=>pure Flow.next) _ _ _
 refine wpAny_bind (assignInOrder_cons (wpAny_bindName (YS I3 hN hj (.inl hy) rw' (fun s2 I4=>?_) (.inr hy))))
 refine assignInOrder_cons (wpAny_bindName (YS I4 hN hi (.inl hx) rv (fun s3 I5=>assignInOrder_nil (wpAny_pure ?_)) (.inr hx)))
 rw[List.set_comm _ _ (Ne.symm hij)]at I5
 exact⟨_,H1,I5,q1⟩
def Zlx(i:Nat)(te:TE)(ti:TIp):TS:=fun D σ H=>∃x,σ[i]?=some (some x)/\te σ H fun y H1=>ti x y H1 fun z H2=>D.nx (σ.set i (some z)) H2
theorem Zi2{i:Nat}{x:Str}{e:Expr}{te:TE}{op:Operator}{ti:TIp}{pos':Pos}(hN:X.N.Nodup)(hi:X.N[i]?=some x)(hx:Loc X.env.scope x)(he:PE X e te)(ho:PIp X op ti)(hf:X.fn x=true\/X.env.scope.names.lookup x=some .local:=by first|exact .inl rfl|exact .inr rfl|assumption):
  PS X (.AugAssign (.Name x pos') op e pos) (Zlx i te ti):=by
 intro pins s σ H D I h
 obtain⟨v,e1,h⟩:=h
 obtain⟨m,hn,hl⟩:=I.loc
 have vis:Vis X.env.scope x:=by rcases hx with k|k;exact .inl k;exact .inr (.inl k)
 obtain⟨u,r,l⟩:=hl i x v hi e1 vis
 refine wpAny_AugAssign_Name ?_
 have go:wpAny (model X.prog X.w) X.A (eval e X.env) (fun w s₂=>wpAny (model X.prog X.w) X.A (inplaceOp op u w) (fun r s₃=>wpAny (model X.prog X.w) X.A (storeName X.env x r) (fun _=>SP X pins D .next) X.xe s₃) X.xe s₂) X.xe s:=by
  refine thn (he pins s σ H _ I h) fun w s1 xq1=>?_
  obtain⟨y,H1,I1,r1,q1⟩:=xq1
  refine thn (ho pins s1 σ H1 v y u w _ I1 r r1 q1) fun z s2 xq1=>?_
  obtain⟨zv,H2,I2,r2,q2⟩:=xq1
  exact YS I2 hN hi hx r2 (fun s3 I3=>⟨_,H2,I3,q2⟩) hf
 rcases l with⟨hk,hm⟩|⟨hk,c,hc,hcell⟩
 ·exact wpAny_loadName_local I.ok.kind hk hn hm go
 ·rcases hk with hk|hk
  ·exact wpAny_loadName_cell I.ok.kind hk hc hcell go
  ·rcases hx with k|k
   ·have:X.env.scope.names.lookup x=some .free:=hk
    rw[k]at this;cases this
   ·have:X.env.scope.names.lookup x=some .free:=hk
    rw[k]at this;cases this
def Zj4(to ti te:TE)(tget:V->V->Hp->VK->Prop)(tip:TIp)(tset:Zgx):TS:=fun D σ H=>to σ H fun o H1=>ti σ H1 fun i H2=>tget o i H2 fun x H3=>te σ H3 fun y H4=>tip x y H4 fun z H5=>tset o i z H5 fun H6=>D.nx σ H6
def Zli(X:Cx)(t:V->V->Hp->VK->Prop):Prop:=
 ∀(pins:List (Addr×Obj))(s:Shared)(σ:St)(H:Hp)(o i:V)(ov iv:Value)(Q:VK),Inv X pins σ H s->RelV o ov->RelV i iv->t o i H Q->
  wpAny (model X.prog X.w) X.A (getItem ov iv) (EP X pins σ Q) X.xe s
theorem ZdQ{o i e:Expr}{to ti te:TE}{tget:V->V->Hp->VK->Prop}{tip:TIp}{tset:Zgx}{op:Operator}{tpos:Pos}(ho:PE X o to)(hi:PE X i ti)(hg:Zli X tget)(he:PE X e te)(hp:PIp X op tip)(hs:ZhA X tset)
  (ha:∀ov iv new,augStore i ov iv new=(do holding [new,ov,iv] (setItem ov iv new);release [new,ov,iv] [];pure .next):=by intros;rfl):PS X (.AugAssign (.Subscript o i tpos) op e pos) (Zj4 to ti te tget tip tset):=by
 intro pins s σ H D I h
 refine wpAny_AugAssign_SubscriptAny (thn (ho pins s σ H _ I h) fun ov s1 xq1=>?_) ha
 obtain⟨x1,H1,I1,r1,q1⟩:=xq1
 refine thn (hi pins s1 σ H1 _ I1 q1) fun iv s2 xq1=>?_
 obtain⟨x2,H2,I2,r2,q2⟩:=xq1
 refine thn (hg pins s2 σ H2 x1 x2 ov iv _ I2 r1 r2 q2) fun old s3 xq1=>?_
 obtain⟨x3,H3,I3,r3,q3⟩:=xq1
 refine thn (he pins s3 σ H3 _ I3 q3) fun v s4 xq1=>?_
 obtain⟨x4,H4,I4,r4,q4⟩:=xq1
 refine thn (hp pins s4 σ H4 x3 x4 old v _ I4 r3 r4 q4) fun new s5 xq1=>?_
 obtain⟨x5,H5,I5,r5,q5⟩:=xq1
 exact thn (hs pins s5 σ H5 x1 x2 x5 ov iv new _ I5 r1 r2 r5 q5) fun _ s6⟨H6,I6,q6⟩=>⟨σ,H6,I6,q6⟩
inductive ipI(f:Int->Int->Int)(x:V)(y:V)(H:Hp)(Q:VK):Prop
 |mk (i j:_) (_:x= .int i) (_:y= .int j) (_:Q (.int (f i j)) H)
theorem Zd8:PIp X .Add (ipI fun i j=>i+j):=by
 intro pins s σ H x y v u Q I r1 r2 h
 obtain⟨i,j,e1,e2,q⟩:=h
 subst e1;subst e2
 obtain⟨t,rfl⟩:=r1
 obtain⟨t',rfl⟩:=r2
 exact iadd_int ⟨.int _,H,I.tok _,⟨_,rfl⟩,q⟩
def Zic(c:TT)(tb:TS):TS:=fun D σ H=>∃W:Nat->St->Hp->Prop,(∃m,W m σ H)/\∀m σ H,W m σ H->
 c σ H fun b H1=>if b=true then∃N:St->Hp->Prop,(∀σ' H',N σ' H'->∃m',m'<m/\W m' σ' H')/\tb {D with nx:=N,ct:=N,bk:=D.nx} σ H1 else D.nx σ H1
theorem Jp{c:Expr}{body:List Stmt}{tc:TT}{tb:TS}(hp:PassesOwn (model X.prog X.w) X.A X.env X.xe)(hc:PT X c tc)(hb:PSs X body tb):PS X (.While c body [] pos) (Zic tc tb):=by
 intro pins s σ H D I h
 obtain⟨W,⟨m0,w0⟩,turn⟩:=h
 refine wpAny_While (codeAny_whileLoop (fun n s'=>∃σ' H',Inv X pins σ' H' s'/\W n σ' H') ?_ m0 ⟨σ,H,I,w0⟩)
 rintro n s1 ⟨σ1,H1,I1,w1⟩
 refine wpAny_passesOwn hp (thn (hc pins s1 σ1 H1 _ I1 (turn n σ1 H1 w1)) fun b s2 xq1=>?_)
 obtain⟨H2,I2,q2⟩:=xq1
 cases b with
 |true=>
  obtain⟨N,hN,q2⟩:=q2
  rw[if_pos rfl]
  refine wpAny_passesOwn hp (thn (hb pins s2 σ1 H2 _ I2 q2) fun f s3 q3=>?_)
  cases f with
  |next=>
   obtain⟨σ3,H3,I3,n3⟩:=q3
   obtain⟨m',hm,w3⟩:=hN σ3 H3 n3
   exact⟨m',hm,σ3,H3,I3,w3⟩
  |cont=>
   obtain⟨σ3,H3,I3,n3⟩:=q3
   obtain⟨m',hm,w3⟩:=hN σ3 H3 n3
   exact⟨m',hm,σ3,H3,I3,w3⟩
  |brk=>exact q3
  |ret v=>exact q3
 |false=>
  rw[if_neg Bool.false_ne_true]
  exact wpAny_execs_nil ⟨σ1,H2,I2,q2⟩
end
structure It where
 go:Nat->Hp->Prop
 yld:Nat->Hp->V->Hp->Prop
 stop:Nat->Hp->Prop
def FpOk(X:Cx)(pins:List (Addr×Obj))(H:Hp)(b:Addr):Prop:=
 H b=none/\b≠X.env.locals/\b ∉ X.fs/\(b∈X.ex\/X.s₀.heap.objs.size<=b)/\(∀x c,X.env.cells.lookup x=some c->c≠b)/\∀p∈X.pn++pins,p.1≠b
theorem Inv.fpOk{X:Cx}{pins:List (Addr×Obj)}{σ:St}{H H':Hp}{s:Shared}{b:Addr}(I:Inv X pins σ H s)(hb:s.heap.objs.size<=b)(hn:H' b=none):FpOk X pins H' b:=by
 refine⟨hn,Nat.ne_of_gt (Nat.lt_of_lt_of_le I.lt hb),I.nofs hb,.inr (Nat.le_trans I.sz hb),fun x c e z=>?_,fun p hp z=>?_⟩
 ·obtain⟨v,q⟩:=I.cell x c e
  exact absurd (Nat.lt_of_lt_of_le q.lt (by rw[z];exact hb)) (Nat.lt_irrefl _)
 ·exact absurd (Nat.lt_of_lt_of_le (Heap.lt_size (I.pin p hp).1) (by rw[z];exact hb)) (Nat.lt_irrefl _)
structure Turn(P:Program)(w:World)(K:PySem.W.Frag)(tg:Expr)(J:It)(fp:List Addr)(it:Addr)(tn:Nat->Heap->Prop):Prop where
 mem:it∈fp
 obj:∀i h,tn i h->∀b∈fp,∃o,h.get? b=some o/\∀v,o.data≠.cell v
 keep:∀i h h',tn i h->(∀b∈fp,∀o,h.get? b=some o->h'.get? b=some o)->tn i h'
 item:∀(X:Cx),X.prog=P->X.w=w->X.K=K->X.calm=true->∀(i:Nat)(pins:List (Addr×Obj))(s:Shared)(σ:St)(H:Hp)(E:Value->Shared->Prop),Inv X pins σ H s->(∀b∈fp,FpOk X pins H b)->tn i s.heap->J.go i H->
  wpAny (model P w) X.A (pyNext (.ref it)) (fun r s1=>∃u,r=some u/\
   wpAny (model P w) X.A (letOwnedTupleGo tg (.ref it) u) (fun _ s2=>∃x H',Inv X pins σ H' s2/\RelV x u/\J.yld i H x H'/\tn (i+1) s2.heap/\∀b∈fp,H' b=none) E s1) E s
 done:∀(X:Cx),X.prog=P->X.w=w->X.K=K->X.calm=true->∀(i:Nat)(pins:List (Addr×Obj))(s:Shared)(σ:St)(H:Hp)(E:Value->Shared->Prop),Inv X pins σ H s->(∀b∈fp,FpOk X pins H b)->tn i s.heap->J.stop i H->
  wpAny (model P w) X.A (pyNext (.ref it)) (fun r s1=>r=none/\Inv X pins σ H s1) E s
 self:∀(A:Around)(i:Nat)(s:Shared)(Q:Value->Shared->Prop)(E:Value->Shared->Prop),tn i s.heap->Q (.ref it) s->wpAny (model P w) A (pyIter (.ref it)) Q E s
abbrev TI:=St->Hp->(It->Hp->Prop)->Prop
def PIE(X:Cx)(pins:List (Addr×Obj))(σ:St)(tg:Expr)(R:It->Hp->Prop)(itv:Value)(s2:Shared):Prop:=
 ∃(it:Addr)(fp:List Addr)(tn:Nat->Heap->Prop)(J:It)(H':Hp),itv= .ref it/\Inv X pins σ H' s2/\Turn X.prog X.w X.K tg J fp it tn/\tn 0 s2.heap/\(∀b∈fp,FpOk X pins H' b)/\R J H'
def PI(X:Cx)(tg iter:Expr)(wi:TI):Prop:=
 ∀(pins:List (Addr×Obj))(s:Shared)(σ:St)(H:Hp)(R:It->Hp->Prop),Inv X pins σ H s->wi σ H R->
  wpAny (model X.prog X.w) X.A (eval iter X.env) (fun v s1=>wpAny (model X.prog X.w) X.A (pyIter v) (PIE X pins σ tg R) X.xe s1) X.xe s
theorem ZfT{M:Model}{A:Around}{E:Value->Shared->Prop}{s:Shared}{tg:Expr}{it:Addr}{u:Value}{o:Obj}{n:String}{vs:Array Value}{Q:Unit->Shared->Prop}(ho:s.heap.get? it=some o)(hc:o.cls= .type n)(hd:o.data= .fields vs)
  (hn:["enumerate","zip","dict_itemiterator","dict_reverseitemiterator","odict_iterator","itertools.zip_longest","itertools.pairwise"].contains n=false)(hQ:Q () s):wpAny M A (letOwnedTupleGo tg (.ref it) u) Q E s:=by
 unfold letOwnedTupleGo
 cases tg<;>first
  |exact wpAny_pure hQ
  |(cases u<;>first
    |exact wpAny_pure hQ
    |(refine wpAny_bind (wpAny_load ho ?_)
      rw[hc,hd]
      show wpAny M A (if(["enumerate","zip","dict_itemiterator","dict_reverseitemiterator","odict_iterator","itertools.zip_longest","itertools.pairwise"].contains n&&vs[0]?==some (rawInt _))=true then _ else _) Q E s
      rw[if_neg (by intro h;rw[hn,Bool.false_and]at h;cases h)]
      exact wpAny_pure hQ))
def Itl(K:PySem.W.Frag)(a:Addr):It:=
 ⟨fun i H=>∃xs x,SqL K H a xs/\xs[i]?=some x,fun i H x H'=>H'=H/\∀xs,SqL K H a xs->xs[i]?=some x,fun i H=>∃xs,SqL K H a xs/\xs.length<=i⟩
def Itt(K:PySem.W.Frag)(a:Addr):It:=
 ⟨fun i H=>∃xs x,SqT K H a xs/\xs[i]?=some x,fun i H x H'=>H'=H/\∀xs,SqT K H a xs->xs[i]?=some x,fun i H=>∃xs,SqT K H a xs/\xs.length<=i⟩
def Itr(lo:Int)(n:Nat):It:=⟨fun i _=>i<n,fun i H x H'=>H'=H/\x= .int (lo+i),fun i _=>n<=i⟩
theorem Zeq{P:Program}{w:World}{K:PySem.W.Frag}{tg:Expr}(a it:Addr):Turn P w K tg (Itl K a) [it] it (fun i h=>h.IsListIter it a i)where
 mem:=by simp
 obj:=fun i h st b hb=>by
  have e:b=it:=by simpa using hb
  subst e
  obtain⟨o,e,c,d⟩:=st
  exact⟨o,e,fun v z=>by rw[d]at z;cases z⟩
 keep:=fun i h h' st k=>st.at fun o e=>k it (by simp) o e
 item:=by
  intro X hP hw hK hc i pins s σ H E I hf st hg
  subst hP hw hK
  obtain⟨xs,x,hq,hx⟩:=hg
  obtain⟨its,rv,p,hz⟩:=I.list hq
  obtain⟨u,hu,ru⟩:=rv.get hx
  obtain⟨f0,f1,f2,f3,f4,f5⟩:=hf it (by simp)
  refine wpAny_pyNext_list_item st p.isList (x:=u) (by simpa using hu) fun h' st' sb=>?_
  have I1:Inv X pins σ H {s with heap:=h'}:=I.turned (t':=s.toks) (fun b o hb e=>(sb.2 b hb).trans e) f0 f1 f3 f4 f5
  obtain⟨o,e,c,d⟩:=id st'
  exact⟨u,rfl,ZfT (s:={s with heap:=h'}) e c d (by decide) ⟨x,H,I1,ru,⟨rfl,fun ys hy=>by rw[I.list_inj hy hq];exact hx⟩,st',fun b hb=>(hf b hb).1⟩⟩
 done:=by
  intro X hP hw hK hc i pins s σ H E I hf st hg
  subst hP hw hK
  obtain⟨xs,hq,hx⟩:=hg
  obtain⟨its,rv,p,hz⟩:=I.list hq
  obtain⟨f0,f1,f2,f3,f4,f5⟩:=hf it (by simp)
  have hl:=rv.length
  exact wpAny_pyNext_list_end (I.ok.hd hc) st p.isList (by simp;omega) fun h' eb=>⟨rfl,I.turned (t':=s.toks) (fun b o hb e=>eb b o hb e) f0 f1 f3 f4 f5⟩
 self:=fun _ _ _ _ _ st h=>wpAny_pyIter_listiter st h
theorem Zdh{P:Program}{w:World}{K:PySem.W.Frag}{tg:Expr}(a it:Addr):Turn P w K tg (Itt K a) [it] it (fun i h=>h.IsTupleIter it a i)where
 mem:=by simp
 obj:=fun i h st b hb=>by
  have e:b=it:=by simpa using hb
  subst e
  obtain⟨o,e,c,d⟩:=st
  exact⟨o,e,fun v z=>by rw[d]at z;cases z⟩
 keep:=fun i h h' st k=>st.at fun o e=>k it (by simp) o e
 item:=by
  intro X hP hw hK hc i pins s σ H E I hf st hg
  subst hP hw hK
  obtain⟨xs,x,hq,hx⟩:=hg
  obtain⟨its,rv,p,hz⟩:=I.tuple hq
  obtain⟨u,hu,ru⟩:=rv.get hx
  obtain⟨f0,f1,f2,f3,f4,f5⟩:=hf it (by simp)
  refine wpAny_pyNext_tuple_item st (show s.heap.IsTuple a its.toArray from p) (x:=u) (by simpa using hu) fun h' st' sb=>?_
  have I1:Inv X pins σ H {s with heap:=h'}:=I.turned (t':=s.toks) (fun b o hb e=>(sb.2 b hb).trans e) f0 f1 f3 f4 f5
  obtain⟨o,e,c,d⟩:=id st'
  exact⟨u,rfl,ZfT (s:={s with heap:=h'}) e c d (by decide) ⟨x,H,I1,ru,⟨rfl,fun ys hy=>by rw[I.tuple_inj hy hq];exact hx⟩,st',fun b hb=>(hf b hb).1⟩⟩
 done:=by
  intro X hP hw hK hc i pins s σ H E I hf st hg
  subst hP hw hK
  obtain⟨xs,hq,hx⟩:=hg
  obtain⟨its,rv,p,hz⟩:=I.tuple hq
  obtain⟨f0,f1,f2,f3,f4,f5⟩:=hf it (by simp)
  have hl:=rv.length
  exact wpAny_pyNext_tuple_end (I.ok.hd hc) st (show s.heap.IsTuple a its.toArray from p) (by simp;omega) fun h' eb=>⟨rfl,I.turned (t':=s.toks) (fun b o hb e=>eb b o hb e) f0 f1 f3 f4 f5⟩
 self:=fun _ _ _ _ _ st h=>wpAny_pyIter_tupleiter st h
theorem Zdi{P:Program}{w:World}{K:PySem.W.Frag}{tg:Expr}(it:Addr)(lo:Int)(n:Nat):Turn P w K tg (Itr lo n) [it] it (fun i h=>IsRangeIter h it (lo+(i:Nat)*1) ((n:Int)-(i:Nat)) 1)where
 mem:=by simp
 obj:=fun i h st b hb=>by
  have e:b=it:=by simpa using hb
  subst e
  exact⟨_,st,fun v z=>by
   have z':Data.fields _=Data.cell v:=z
   cases z'⟩
 keep:=fun i h h' st k=>k it (by simp) _ st
 item:=by
  intro X hP hw hK hc i pins s σ H E I hf st hg
  subst hP hw hK
  obtain⟨f0,f1,f2,f3,f4,f5⟩:=hf it (by simp)
  have W:=Walks.range (prog:=X.prog) (w:=X.w) (I.ok.hd hc) it lo 1 n
  refine W.item i s _ _ hg st fun v h' tk hv st' kk=>?_
  obtain⟨t,rfl⟩:=hv
  have I1:Inv X pins σ H {s with heap:=h',toks:=tk}:=I.turned (fun b o hb e=>kk b o (by simpa using hb) e) f0 f1 f3 f4 f5
  refine⟨_,rfl,ZfT (s:={s with heap:=h',toks:=tk}) (n:="range_iterator") st' rfl rfl (by decide) ⟨.int (lo+i),H,I1,⟨t,?_⟩,⟨rfl,rfl⟩,st',fun b hb=>(hf b hb).1⟩⟩
  rw[Int.mul_one]
 done:=by
  intro X hP hw hK hc i pins s σ H E I hf st hg
  subst hP hw hK
  obtain⟨f0,f1,f2,f3,f4,f5⟩:=hf it (by simp)
  exact wpAny_pyNext_range_end (I.ok.hd hc) st (by have:n<=i:=hg;omega) fun h' eb=>⟨rfl,I.turned (t':=s.toks) (fun b o hb e=>eb b o hb e) f0 f1 f3 f4 f5⟩
 self:=fun _ _ _ _ _ st h=>wpAny_pyIter_rangeiter st h
section
variable{X:Cx}{tg:Expr}
def ZkF(K:PySem.W.Frag)(tl:TE):TI:=fun σ H R=>tl σ H fun x H1=>∃a,x= .ref a/\(∃xs,SqL K H1 a xs)/\R (Itl K a) H1
def ZkE(K:PySem.W.Frag)(tl:TE):TI:=fun σ H R=>tl σ H fun x H1=>∃a,x= .ref a/\(∃xs,SqT K H1 a xs)/\R (Itt K a) H1
theorem JS{l:Expr}{tl:TE}(hl:PE X l tl):PI X tg l (ZkF X.K tl):=by
 intro pins s σ H R I h
 refine thn (hl pins s σ H _ I h) fun v s1 xq1=>?_
 obtain⟨x,H1,I1,r1,q1⟩:=xq1
 obtain⟨a,e,⟨xs,hq⟩,q⟩:=q1
 subst e
 cases r1
 obtain⟨its,rv,p,hz⟩:=I1.list hq
 refine wpAny_pyIter_list p.isList ?_
 refine⟨s1.heap.objs.size,[s1.heap.objs.size],_,_,H1,rfl,I1.kept (t':=s1.toks) fun b o e=>Heap.get?_push_of_some _ e,Zeq a _,⟨_,Heap.get?_push_size _ rfl,rfl,rfl⟩,fun b hb=>?_,q⟩
 have e:b=s1.heap.objs.size:=by simpa using hb
 subst e
 exact I1.fpOk (Nat.le_refl _) (I1.hok.fresh (Nat.le_refl _))
theorem Yu{l:Expr}{tl:TE}(hl:PE X l tl):PI X tg l (ZkE X.K tl):=by
 intro pins s σ H R I h
 refine thn (hl pins s σ H _ I h) fun v s1 xq1=>?_
 obtain⟨x,H1,I1,r1,q1⟩:=xq1
 obtain⟨a,e,⟨xs,hq⟩,q⟩:=q1
 subst e
 cases r1
 obtain⟨its,rv,p,hz⟩:=I1.tuple hq
 refine wpAny_pyIter_tuple (show s1.heap.IsTuple a its.toArray from p) ?_
 refine⟨s1.heap.objs.size,[s1.heap.objs.size],_,_,H1,rfl,I1.kept (t':=s1.toks) fun b o e=>Heap.get?_push_of_some _ e,Zdh a _,⟨_,Heap.get?_push_size _ rfl,rfl,rfl⟩,fun b hb=>?_,q⟩
 have e:b=s1.heap.objs.size:=by simpa using hb
 subst e
 exact I1.fpOk (Nat.le_refl _) (I1.hok.fresh (Nat.le_refl _))
theorem Zfq{pins:List (Addr×Obj)}{σ:St}{H:Hp}{s:Shared}{R:It->Hp->Prop}{E:Value->Shared->Prop}{lo hi:Int}{t u v:Tok}{tk:Nat}(I:Inv X pins σ H s)(h1: -(2^62)<=lo)(h2:lo<2^62)(h3: -(2^62)<=hi)(h4:hi<2^62)
  (q:R (Itr lo (hi-lo).toNat) H):wpAny (model X.prog X.w) X.A (pyIter (.ref s.heap.objs.size)) (PIE X pins σ tg R) E {s with heap:=s.heap.push {cls:= .type "range",data:= .fields #[.int lo t,.int hi u,.int 1 v]},toks:=tk}:=by
 refine wpAny_pyIter_range (IsRange.new ..) (small_one h1 h2 h3 h4) ?_
 have I1:Inv X pins σ H {s with heap:=s.heap.push {cls:= .type "range",data:= .fields #[.int lo t,.int hi u,.int 1 v]},toks:=tk}:=I.kept fun b o e=>Heap.get?_push_of_some _ e
 refine⟨(s.heap.push {cls:= .type "range",data:= .fields #[.int lo t,.int hi u,.int 1 v]}).objs.size,[(s.heap.push {cls:= .type "range",data:= .fields #[.int lo t,.int hi u,.int 1 v]}).objs.size],_,_,H,rfl,
  I1.kept (t':=tk) fun b o e=>Heap.get?_push_of_some _ e,Zdi _ lo (hi-lo).toNat,?_,fun b hb=>?_,q⟩
 ·have e1:lo+((0:Nat):Int)*1=lo:=by simp
  have e2:(((hi-lo).toNat:Nat):Int)-((0:Nat):Int)=Builtin.Range.rangeSize lo hi 1:=by rw[rangeSize_one];split<;>omega
  show IsRangeIter _ _ (lo+((0:Nat):Int)*1) ((((hi-lo).toNat:Nat):Int)-((0:Nat):Int)) 1
  rw[e1,e2]
  exact Heap.get?_push_size _ rfl
 ·have e:b=(s.heap.push {cls:= .type "range",data:= .fields #[.int lo t,.int hi u,.int 1 v]}).objs.size:=by simpa using hb
  subst e
  exact I1.fpOk (Nat.le_refl _) (I1.hok.fresh (Nat.le_refl _))
def ZhU(ta:TA):TI:=fun σ H R=>ta σ H fun vs H1=>∃j:Int,vs=[.int j]/\ -(2^62)<=j/\j<2^62/\R (Itr 0 j.toNat) H1
theorem Yi{a:Expr}{ta:TA}{p pos:Pos}(hg:Gl X "range")(hm:X.mg "range"=none)(ha:PA X [a] ta)(hs:starEach [a] X.env=[(false,eval a X.env)]:=by rfl):PI X tg (.Call (.Name "range" p) [a] [] pos) (ZhU ta):=by
 intro pins s σ H R I h
 refine Call_ (Yy I hg hm boot_range (PyProof.Rows.callWith_type1 (thn (ha pos pins s σ H _ I h) fun us s1 xq1=>?_) hs rfl))
 obtain⟨vs,H1,I1,r1,q1⟩:=xq1
 obtain⟨j,e,q1,q2,q⟩:=q1
 subst e
 cases r1 with
 |cons r rr=>
  cases rr
  obtain⟨t,rfl⟩:=r
  exact call_range_1 (Zfq I1 (by omega) (by omega) q1 q2 (by simpa using q))
def Zj2(wi:TI)(g:TG)(tb:TS):TS:=fun D σ H=>wi σ H fun J H1=>∃W:Nat->Nat->St->Hp->Prop,(∃m,W 0 m σ H1)/\∀i m σ H,W i m σ H->
 (J.stop i H/\D.nx σ H)\/(J.go i H/\∃N:St->Hp->Prop,(∀σ' H',N σ' H'->∃m',m'<m/\W (i+1) m' σ' H')/\∀x H',J.yld i H x H'->g x σ H' fun σ2 H2=>tb {D with nx:=N,ct:=N,bk:=D.nx} σ2 H2)
def Y4(fp:List Addr)(h:Heap):List (Addr×Obj):=fp.filterMap fun b=>(h.get? b).map fun o=>(b,o)
theorem Yx{fp:List Addr}{h:Heap}{b:Addr}{o:Obj}(hb:b∈fp)(e:h.get? b=some o):(b,o)∈Y4 fp h:=List.mem_filterMap.mpr ⟨b,hb,by rw[e];rfl⟩
theorem Zaq{fp:List Addr}{h:Heap}{p:Addr×Obj}(hp:p∈Y4 fp h):p.1∈fp/\h.get? p.1=some p.2:=by
 obtain⟨b,hb,e⟩:=List.mem_filterMap.mp hp
 cases q:h.get? b with
 |none=>rw[q]at e;cases e
 |some o=>
  rw[q]at e
  have e':(b,o)=p:=Option.some.inj e
  subst e'
  exact⟨hb,q⟩
theorem Inv.pinned{pins:List (Addr×Obj)}{σ:St}{H:Hp}{s:Shared}{fp:List Addr}(I:Inv X pins σ H s)(hf:∀b∈fp,FpOk X pins H b) (ho:∀b∈fp,∃o,s.heap.get? b=some o/\∀v,o.data≠.cell v):Inv X (pins++Y4 fp s.heap) σ H s:=
 I.pins_of fun p hp=>(List.mem_append.mp hp).elim (fun z=>I.pin p (List.mem_append_right _ z)) fun z=>by
  obtain⟨hb,e⟩:=Zaq z
  obtain⟨f0,f1,f2,_⟩:=hf p.1 hb
  obtain⟨o,e',d⟩:=ho p.1 hb
  rw[e]at e';cases e'
  exact⟨e,f0,f1,f2,d⟩
theorem Inv.unpinned{pins pl:List (Addr×Obj)}{σ:St}{H:Hp}{s:Shared}(I:Inv X (pins++pl) σ H s):Inv X pins σ H s:=I.pins_of fun p hp=>I.pin p (List.mem_append_right _ (List.mem_append_left _ hp))
theorem ZL{iter:Expr}{body:List Stmt}{wi:TI}{g:TG}{tb:TS}{pos:Pos}(hp:PassesOwn (model X.prog X.w) X.A X.env X.xe)(hc:X.calm=true)(hi:PI X tg iter wi)(hg:PG X tg g)(hb:PSs X body tb)
  (hs:∀x,foldedSetIterable iter X.env x=pure x:=by intro _;rfl):PS X (.For tg iter body [] pos) (Zj2 wi g tb):=by
 intro pins s σ H D I h
 refine wpAny_For (thn (hi pins s σ H _ I h) fun v s1 h1=>thn h1 fun itv s2 h2=>?_) hs
 obtain⟨it,fp,tn,J,H2,e,I2,T,st2,f2,W,⟨m0,w0⟩,turn⟩:=h2
 subst e
 have stat:∀{H':Hp},(∀b∈fp,H' b=none)->∀b∈fp,FpOk X pins H' b:=fun hn b hb=>⟨hn b hb,(f2 b hb).2⟩
 refine codeAny_forLoop_any (fun n s'=>∃i σ' H',Inv X pins σ' H' s'/\tn i s'.heap/\(∀b∈fp,H' b=none)/\W i n σ' H') ?_ m0 ⟨0,σ,H2,I2,st2,fun b hb=>(f2 b hb).1,w0⟩
 rintro n s3 ⟨i,σ3,H3,I3,st3,fr3,w3⟩
 rcases turn i n σ3 H3 w3 with⟨stop,qn⟩|⟨go,N,hN,step⟩
 ·refine wpAny_passesOwn hp (thn (T.done X rfl rfl rfl hc i pins s3 σ3 H3 X.xe I3 (stat fr3) st3 stop) fun r s4 xq1=>?_)
  obtain⟨hr,I4⟩:=xq1
  subst hr
  exact wpAny_execs_nil ⟨σ3,H3,I4,qn⟩
 ·refine wpAny_passesOwn hp (thn (T.item X rfl rfl rfl hc i pins s3 σ3 H3 X.xe I3 (stat fr3) st3 go) fun r s4 xq1=>?_)
  obtain⟨u,hr,h4⟩:=xq1
  subst hr
  refine wpAny_passesOwn hp (thn h4 fun _ s5 xq1=>?_)
  obtain⟨x,H5,I5,r5,y5,st5,fr5⟩:=xq1
  have I5':=I5.pinned (stat fr5) (T.obj _ _ st5)
  refine wpAny_passesOwn hp (thn (hg _ s5 σ3 H5 x u _ I5' r5 (step x H5 y5)) fun _ s6 xq1=>?_)
  obtain⟨σ6,H6,I6,q6⟩:=xq1
  refine wpAny_passesOwn hp (thn (hb _ s6 σ6 H6 _ I6 q6) fun f s7 q7=>?_)
  have again:∀{σ7:St}{H7:Hp},Inv X (pins++Y4 fp s5.heap) σ7 H7 s7->N σ7 H7->∃m,m<n/\∃i σ' H',Inv X pins σ' H' s7/\tn i s7.heap/\(∀b∈fp,H' b=none)/\W i m σ' H':=fun{σ7 H7} I7 n7=>by
   obtain⟨m',hm,w7⟩:=hN σ7 H7 n7
   refine⟨m',hm,i+1,σ7,H7,I7.unpinned,T.keep _ _ _ st5 fun b hb o e=>(I7.pin (b,o) (List.mem_append_right _ (List.mem_append_right _ (Yx hb e)))).1,fun b hb=>?_,w7⟩
   obtain⟨o,e,d⟩:=T.obj _ _ st5 b hb
   exact(I7.pin (b,o) (List.mem_append_right _ (List.mem_append_right _ (Yx hb e)))).2.1
  cases f with
  |next=>obtain⟨σ7,H7,I7,n7⟩:=q7;exact again I7 n7
  |cont=>obtain⟨σ7,H7,I7,n7⟩:=q7;exact again I7 n7
  |brk=>obtain⟨σ7,H7,I7,q7⟩:=q7;exact⟨σ7,H7,I7.unpinned,q7⟩
  |ret v=>obtain⟨x7,σ7,H7,I7,r7,q7⟩:=q7;exact⟨x7,σ7,H7,I7.unpinned,r7,q7⟩
end
theorem Jv{K:PySem.W.Frag}{a:Addr}{xs:List V}{g:TG}{tb:TS}{D:Ends}{σ:St}{H:Hp}(Pv:Nat->St->Hp->Prop)(h0:Pv 0 σ H)(hl:∀i σ H,i<=xs.length->Pv i σ H->SqL K H a xs)
  (hs:∀i x σ H,xs[i]?=some x->Pv i σ H->g x σ H fun σ2 H2=>tb {D with nx:=Pv (i+1),ct:=Pv (i+1),bk:=D.nx} σ2 H2) (hd:∀σ H,Pv xs.length σ H->D.nx σ H):
  ∃W:Nat->Nat->St->Hp->Prop,(∃m,W 0 m σ H)/\∀i m σ H,W i m σ H->
   ((Itl K a).stop i H/\D.nx σ H)\/((Itl K a).go i H/\∃N:St->Hp->Prop,(∀σ' H',N σ' H'->∃m',m'<m/\W (i+1) m' σ' H')/\∀x H',(Itl K a).yld i H x H'->g x σ H' fun σ2 H2=>tb {D with nx:=N,ct:=N,bk:=D.nx} σ2 H2):=by
 refine⟨fun i m σ H=>m=xs.length-i/\i<=xs.length/\Pv i σ H,⟨xs.length,by simp,Nat.zero_le _,h0⟩,?_⟩
 rintro i m σ H ⟨rfl,hi,p⟩
 have q:=hl i σ H hi p
 by_cases hlt:i<xs.length
 ·refine .inr ⟨⟨xs,xs[i],q,by simp[hlt]⟩,Pv (i+1),fun σ' H' p'=>⟨xs.length-(i+1),by omega,rfl,hlt,p'⟩,fun x H' y=>?_⟩
  obtain⟨e,y⟩:=y
  subst e
  exact hs i x σ _ (y xs q) p
 ·have e:i=xs.length:=by omega
  subst e
  exact .inl ⟨⟨xs,q,Nat.le_refl _⟩,hd σ H p⟩
theorem Yt{K:PySem.W.Frag}{a:Addr}{xs:List V}{g:TG}{tb:TS}{D:Ends}{σ:St}{H:Hp}(Pv:Nat->St->Hp->Prop)(h0:Pv 0 σ H)(hl:∀i σ H,i<=xs.length->Pv i σ H->SqT K H a xs)
  (hs:∀i x σ H,xs[i]?=some x->Pv i σ H->g x σ H fun σ2 H2=>tb {D with nx:=Pv (i+1),ct:=Pv (i+1),bk:=D.nx} σ2 H2) (hd:∀σ H,Pv xs.length σ H->D.nx σ H):
  ∃W:Nat->Nat->St->Hp->Prop,(∃m,W 0 m σ H)/\∀i m σ H,W i m σ H->
   ((Itt K a).stop i H/\D.nx σ H)\/((Itt K a).go i H/\∃N:St->Hp->Prop,(∀σ' H',N σ' H'->∃m',m'<m/\W (i+1) m' σ' H')/\∀x H',(Itt K a).yld i H x H'->g x σ H' fun σ2 H2=>tb {D with nx:=N,ct:=N,bk:=D.nx} σ2 H2):=by
 refine⟨fun i m σ H=>m=xs.length-i/\i<=xs.length/\Pv i σ H,⟨xs.length,by simp,Nat.zero_le _,h0⟩,?_⟩
 rintro i m σ H ⟨rfl,hi,p⟩
 have q:=hl i σ H hi p
 by_cases hlt:i<xs.length
 ·refine .inr ⟨⟨xs,xs[i],q,by simp[hlt]⟩,Pv (i+1),fun σ' H' p'=>⟨xs.length-(i+1),by omega,rfl,hlt,p'⟩,fun x H' y=>?_⟩
  obtain⟨e,y⟩:=y
  subst e
  exact hs i x σ _ (y xs q) p
 ·have e:i=xs.length:=by omega
  subst e
  exact .inl ⟨⟨xs,q,Nat.le_refl _⟩,hd σ H p⟩
theorem Yz{lo:Int}{n:Nat}{g:TG}{tb:TS}{D:Ends}{σ:St}{H:Hp}(Pv:Nat->St->Hp->Prop)(h0:Pv 0 σ H)
  (hs:∀i σ H,i<n->Pv i σ H->g (.int (lo+i)) σ H fun σ2 H2=>tb {D with nx:=Pv (i+1),ct:=Pv (i+1),bk:=D.nx} σ2 H2) (hd:∀σ H,Pv n σ H->D.nx σ H):
  ∃W:Nat->Nat->St->Hp->Prop,(∃m,W 0 m σ H)/\∀i m σ H,W i m σ H->
   ((Itr lo n).stop i H/\D.nx σ H)\/((Itr lo n).go i H/\∃N:St->Hp->Prop,(∀σ' H',N σ' H'->∃m',m'<m/\W (i+1) m' σ' H')/\∀x H',(Itr lo n).yld i H x H'->g x σ H' fun σ2 H2=>tb {D with nx:=N,ct:=N,bk:=D.nx} σ2 H2):=by
 refine⟨fun i m σ H=>m=n-i/\i<=n/\Pv i σ H,⟨n,by simp,Nat.zero_le _,h0⟩,?_⟩
 rintro i m σ H ⟨rfl,hi,p⟩
 by_cases hlt:i<n
 ·refine .inr ⟨hlt,Pv (i+1),fun σ' H' p'=>⟨n-(i+1),by omega,rfl,hlt,p'⟩,fun x H' y=>?_⟩
  obtain⟨e,y⟩:=y
  subst e y
  exact hs i σ _ hlt p
 ·have e:i=n:=by omega
  subst e
  exact .inl ⟨Nat.le_refl _,hd σ H p⟩
abbrev R2:=V->V->Hp->VK->Prop
def OpR(X:Cx)(f:Value->Value->Sem Value)(r:R2):Prop:=
 ∀(pins:List (Addr×Obj))(s:Shared)(σ:St)(H:Hp)(x y:V)(v u:Value)(Q:VK),Inv X pins σ H s->RelV x v->RelV y u->r x y H Q->
  wpAny (model X.prog X.w) X.A (f v u) (EP X pins σ Q) X.xe s
def UnR(X:Cx)(f:Value->Sem Value)(r:V->Hp->VK->Prop):Prop:=
 ∀(pins:List (Addr×Obj))(s:Shared)(σ:St)(H:Hp)(x:V)(v:Value)(Q:VK),Inv X pins σ H s->RelV x v->r x H Q->
  wpAny (model X.prog X.w) X.A (f v) (EP X pins σ Q) X.xe s
def CallR(X:Cx)(f:Value)(r:List V->Hp->VK->Prop):Prop:=
 ∀(pins:List (Addr×Obj))(s:Shared)(σ:St)(H:Hp)(xs:List V)(us:List Value)(Q:VK),Inv X pins σ H s->Vals xs us->r xs H Q->
  wpAny (model X.prog X.w) X.A (call f us) (EP X pins σ Q) X.xe s
def Zmd(X:Cx)(r:V->Hp->(Bool->Hp->Prop)->Prop):Prop:=
 ∀(pins:List (Addr×Obj))(s:Shared)(σ:St)(H:Hp)(x:V)(v:Value)(Q:Bool->Hp->Prop),Inv X pins σ H s->RelV x v->r x H Q->
  wpAny (model X.prog X.w) X.A (truthy v) (TP X pins σ Q) X.xe s
def tOp(r:R2)(ta tb:TE):TE:=fun σ H Q=>ta σ H fun x H1=>tb σ H1 fun y H2=>r x y H2 Q
def tUn(r:V->Hp->VK->Prop)(ta:TE):TE:=fun σ H Q=>ta σ H fun x H1=>r x H1 Q
inductive rI(C:Int->Int->Prop)(g:Int->Int->V)(x:V)(y:V)(H:Hp)(Q:VK):Prop
 |mk (i j:_) (_:x= .int i) (_:y= .int j) (_:C i j) (_:Q (g i j) H)
inductive rI0(g:Int->Int->V)(x:V)(y:V)(H:Hp)(Q:VK):Prop
 |mk (i j:_) (_:x= .int i) (_:y= .int j) (_:Q (g i j) H)
inductive rU(g:Int->V)(x:V)(H:Hp)(Q:VK):Prop
 |mk (i:_) (_:x= .int i) (_:Q (g i) H)
section
variable{X:Cx}{a b c:Expr}{ta tb tc:TE}{pos:Pos}
theorem Zjh(ha:PE X a ta)(hb:PE X b tb){pins:List (Addr×Obj)}{s:Shared}{σ:St}{H:Hp}{R:V->V->Hp->Prop}(I:Inv X pins σ H s)
  (h:ta σ H fun x H1=>tb σ H1 fun y H2=>R x y H2) {Q:Value->Shared->Prop} {f:Value->Value->Sem Value}
  (hf:∀v u s2 x y H2,Inv X pins σ H2 s2->RelV x v->RelV y u->R x y H2->wpAny (model X.prog X.w) X.A (f v u) Q X.xe s2):
  wpAny (model X.prog X.w) X.A (eval a X.env) (fun v s₁=>wpAny (model X.prog X.w) X.A (eval b X.env) (fun u s₂=>wpAny (model X.prog X.w) X.A (f v u) Q X.xe s₂) X.xe s₁) X.xe s:=by
 refine thn (ha pins s σ H _ I h) fun v s1 xq1=>?_
 obtain⟨x,H1,I1,r1,q1⟩:=xq1
 refine thn (hb pins s1 σ H1 _ I1 q1) fun u s2 xq1=>?_
 obtain⟨y,H2,I2,r2,q2⟩:=xq1
 exact hf v u s2 x y H2 I2 r1 r2 q2
theorem Zp{op:Operator}{r:R2}(ho:OpR X (binaryOp op) r)(ha:PE X a ta)(hb:PE X b tb):PE X (.BinOp a op b pos) (tOp r ta tb):=by
 intro pins s σ H Q I h
 exact wpAny_BinOp (Zjh ha hb I h fun v u s2 x y H2 I2 rx ry q=>ho pins s2 σ H2 x y v u Q I2 rx ry q)
theorem ZaS{op:UnaryOp}{r:V->Hp->VK->Prop}(ho:UnR X (unaryOp op) r)(ha:PE X a ta):PE X (.UnaryOp op a pos) (tUn r ta):=by
 intro pins s σ H Q I h
 exact UnaryOp_ (thn (ha pins s σ H _ I h) fun v s1⟨x,H1,I1,r1,q1⟩=>ho pins s1 σ H1 x v Q I1 r1 q1)
theorem opI{f:Value->Value->Sem Value}{C:Int->Int->Prop}{g:Int->Int->Int}
  (rule:∀(i j:Int)(t u:Tok)(s:Shared)(Q:Value->Shared->Prop)(E:Value->Shared->Prop),C i j->Q (.int (g i j) s.toks) {s with toks:=s.toks+1}->wpAny (model X.prog X.w) X.A (f (.int i t) (.int j u)) Q E s):
  OpR X f (rI C fun i j=> .int (g i j)):=by
 intro pins s σ H x y v u Q I rx ry h
 obtain⟨i,j,rfl,rfl,hc,q⟩:=h
 obtain⟨t,rfl⟩:=rx
 obtain⟨t',rfl⟩:=ry
 exact rule i j t t' s _ _ hc ⟨.int (g i j),H,I.tok _,⟨_,rfl⟩,q⟩
theorem ZjN{f:Value->Value->Sem Value}{g:Int->Int->Int}
  (rule:∀(i j:Int)(t u:Tok)(s:Shared)(Q:Value->Shared->Prop)(E:Value->Shared->Prop),Q (.int (g i j) s.toks) {s with toks:=s.toks+1}->wpAny (model X.prog X.w) X.A (f (.int i t) (.int j u)) Q E s):
  OpR X f (rI0 fun i j=> .int (g i j)):=by
 intro pins s σ H x y v u Q I rx ry h
 obtain⟨i,j,rfl,rfl,q⟩:=h
 obtain⟨t,rfl⟩:=rx
 obtain⟨t',rfl⟩:=ry
 exact rule i j t t' s _ _ ⟨.int (g i j),H,I.tok _,⟨_,rfl⟩,q⟩
theorem ZiD{f:Value->Value->Sem Value}{g:Int->Int->Bool}
  (rule:∀(i j:Int)(t u:Tok)(s:Shared)(Q:Value->Shared->Prop)(E:Value->Shared->Prop),Q (.bool (g i j)) s->wpAny (model X.prog X.w) X.A (f (.int i t) (.int j u)) Q E s):
  OpR X f (rI0 fun i j=> .bl (g i j)):=by
 intro pins s σ H x y v u Q I rx ry h
 obtain⟨i,j,rfl,rfl,q⟩:=h
 obtain⟨t,rfl⟩:=rx
 obtain⟨t',rfl⟩:=ry
 exact rule i j t t' s _ _ ⟨.bl (g i j),H,I,rfl,q⟩
def Zmf(i j:Int):Prop:=0<j/\j<1073741824
def CMul(i j:Int):Prop:=(-(2^64)<i/\i<2^64)\/(-(2^64)<j/\j<2^64)
theorem CMul.ok{i j:Int}(h:CMul i j):IntMulOk i j:=by
 rcases h with⟨h1,h2⟩|⟨h1,h2⟩
 ·exact .of_left (intBits_le_64 h1 h2)
 ·exact .of_right (intBits_le_64 h1 h2)
theorem Z4:OpR X (binaryOp .Add) (rI0 fun i j=> .int (i+j)):=ZjN fun _ _ _ _ _ _ _ q=>add_int q
theorem Jq:OpR X (binaryOp .Sub) (rI0 fun i j=> .int (i-j)):=ZjN fun _ _ _ _ _ _ _ q=>sub_int q
theorem Yv:OpR X (binaryOp .Mult) (rI CMul fun i j=> .int (i*j)):=opI fun _ _ _ _ _ _ _ hc q=>mul_int q hc.ok
theorem JW:OpR X (binaryOp .FloorDiv) (rI Zmf fun i j=> .int (i/j)):=opI fun i j _ _ _ _ _ hc q=>by
 have h1:(0:Int)<j:=hc.1
 have h2:j<1073741824:=hc.2
 exact floordiv_int (by omega) (by rw[Int.fdiv_eq_ediv_of_nonneg i (by omega)];exact q) (.inl (PyProof.noPylong_small (by omega)))
theorem ZG:OpR X (binaryOp .Mod) (rI (fun _ j=>0<j) fun i j=> .int (i%j)):=opI fun i j _ _ _ _ _ hc q=>by
 have h1:(0:Int)<j:=hc
 exact mod_int' (by omega) (by rw[Int.fmod_eq_emod_of_nonneg i (by omega)];exact q)
theorem unI{f:Value->Sem Value}{g:Int->Int}
  (rule:∀(i:Int)(t:Tok)(s:Shared)(Q:Value->Shared->Prop)(E:Value->Shared->Prop),Q (.int (g i) s.toks) {s with toks:=s.toks+1}->wpAny (model X.prog X.w) X.A (f (.int i t)) Q E s):
  UnR X f (rU fun i=> .int (g i)):=by
 intro pins s σ H x v Q I rx h
 obtain⟨i,rfl,q⟩:=h
 obtain⟨t,rfl⟩:=rx
 exact rule i t s _ _ ⟨.int (g i),H,I.tok _,⟨_,rfl⟩,q⟩
theorem JC:UnR X (unaryOp .USub) (rU fun i=> .int (-i)):=unI fun _ _ _ _ _ q=>neg_int q
end
def Zj7:V->V->Bool
 | .non,.non=>true| .non,.int _=>true| .int _,.non=>true| .non,.bl _=>true| .bl _,.non=>true| .non,.str _=>true| .str _,.non=>true
 | .int _,.int _=>true| .bl _,.bl _=>true| .str _,.str _=>true| .byt _,.byt _=>true
 | .int _,.str _=>true| .str _,.int _=>true| .bl _,.str _=>true| .str _,.bl _=>true
 |_,_=>false
def rEq:R2:=fun x y H Q=>Zj7 x y=true/\Q (.bl (decide (x=y))) H
def rNe:R2:=fun x y H Q=>Zj7 x y=true/\Q (.bl (!decide (x=y))) H
theorem Zee{i j:Int}:decide (V.int i=V.int j)=(i==j):=by
 rw[Bool.eq_iff_iff]
 simp
theorem Zgh{i j:Bool}:decide (V.bl i=V.bl j)=(i==j):=by
 rw[Bool.eq_iff_iff]
 simp
theorem Zed{i j:Str}:decide (V.str i=V.str j)=(i==j):=by
 rw[Bool.eq_iff_iff]
 simp
theorem Zef{i j:Array UInt8}:decide (V.byt i=V.byt j)=(i.toList==j.toList):=by
 rw[Bool.eq_iff_iff]
 cases i
 cases j
 simp
section
variable{X:Cx}{a b c:Expr}{ta tb tc:TE}{pos:Pos}
theorem ZB{pins:List (Addr×Obj)}{σ:St}{H:Hp}{s:Shared}{Q:VK}{k k':Bool}(I:Inv X pins σ H s)(q:Q (.bl k) H)(e:k=k'):EP X pins σ Q (.bool k') s:=by
 subst e
 exact⟨.bl k,H,I,rfl,q⟩
theorem ZI:OpR X (compareOp .Eq) rEq:=by
 intro pins s σ H x y v u Q I rx ry h
 obtain⟨hs,q⟩:=h
 cases x with
 |non=>
  cases rx
  cases y with
  |non=>cases ry;exact PySem.EqNone.eq_none_none (ZB I q (by simp))
  |bl j=>cases ry;exact PySem.EqNone.eq_none_bool (ZB I q (by simp))
  |int j=>obtain⟨t',rfl⟩:=ry;exact PySem.EqNone.eq_none_int (ZB I q (by simp))
  |str j=>obtain⟨t',rfl⟩:=ry;exact PySem.EqNone.eq_none_str (ZB I q (by simp))
  |_=>exact absurd (show false=true from hs) Bool.false_ne_true
 |bl i=>
  cases rx
  cases y with
  |non=>cases ry;exact PySem.EqNone.eq_bool_none (ZB I q (by simp))
  |bl j=>cases ry;exact eq_bool (ZB I q Zgh)
  |str j=>obtain⟨t',rfl⟩:=ry;exact PySem.EqMixed.eq_bool_str (ZB I q (by simp))
  |_=>exact absurd (show false=true from hs) Bool.false_ne_true
 |int i=>
  obtain⟨t,rfl⟩:=rx
  cases y with
  |non=>cases ry;exact PySem.EqNone.eq_int_none (ZB I q (by simp))
  |int j=>obtain⟨t',rfl⟩:=ry;exact eq_int (ZB I q Zee)
  |str j=>obtain⟨t',rfl⟩:=ry;exact PySem.EqMixed.eq_int_str (ZB I q (by simp))
  |_=>exact absurd (show false=true from hs) Bool.false_ne_true
 |str i=>
  obtain⟨t,rfl⟩:=rx
  cases y with
  |non=>cases ry;exact PySem.EqNone.eq_str_none (ZB I q (by simp))
  |bl j=>cases ry;exact PySem.EqMixed.eq_str_bool (ZB I q (by simp))
  |int j=>obtain⟨t',rfl⟩:=ry;exact PySem.EqMixed.eq_str_int (ZB I q (by simp))
  |str j=>obtain⟨t',rfl⟩:=ry;exact eq_str (ZB I q Zed)
  |_=>exact absurd (show false=true from hs) Bool.false_ne_true
 |byt i=>
  obtain⟨t,rfl⟩:=rx
  cases y with
  |byt j=>obtain⟨t',rfl⟩:=ry;exact PySem.W.eq_bytes (ZB I q Zef)
  |_=>exact absurd (show false=true from hs) Bool.false_ne_true
 |_=>cases y<;>exact absurd (show false=true from hs) Bool.false_ne_true
theorem ZaZ:OpR X (compareOp .NotEq) rNe:=by
 intro pins s σ H x y v u Q I rx ry h
 obtain⟨hs,q⟩:=h
 cases x with
 |non=>
  cases rx
  cases y with
  |non=>cases ry;exact PySem.EqNone.ne_none_none (ZB I q (by simp))
  |bl j=>cases ry;exact PySem.EqNone.ne_none_bool (ZB I q (by simp))
  |int j=>obtain⟨t',rfl⟩:=ry;exact PySem.EqNone.ne_none_int (ZB I q (by simp))
  |str j=>obtain⟨t',rfl⟩:=ry;exact PySem.EqNone.ne_none_str (ZB I q (by simp))
  |_=>exact absurd (show false=true from hs) Bool.false_ne_true
 |bl i=>
  cases rx
  cases y with
  |non=>cases ry;exact PySem.EqNone.ne_bool_none (ZB I q (by simp))
  |bl j=>cases ry;exact ne_bool (ZB I q (congrArg not Zgh))
  |str j=>obtain⟨t',rfl⟩:=ry;exact PySem.EqMixed.ne_bool_str (ZB I q (by simp))
  |_=>exact absurd (show false=true from hs) Bool.false_ne_true
 |int i=>
  obtain⟨t,rfl⟩:=rx
  cases y with
  |non=>cases ry;exact PySem.EqNone.ne_int_none (ZB I q (by simp))
  |int j=>obtain⟨t',rfl⟩:=ry;exact ne_int (ZB I q (congrArg not Zee))
  |str j=>obtain⟨t',rfl⟩:=ry;exact PySem.EqMixed.ne_int_str (ZB I q (by simp))
  |_=>exact absurd (show false=true from hs) Bool.false_ne_true
 |str i=>
  obtain⟨t,rfl⟩:=rx
  cases y with
  |non=>cases ry;exact PySem.EqNone.ne_str_none (ZB I q (by simp))
  |bl j=>cases ry;exact PySem.EqMixed.ne_str_bool (ZB I q (by simp))
  |int j=>obtain⟨t',rfl⟩:=ry;exact PySem.EqMixed.ne_str_int (ZB I q (by simp))
  |str j=>obtain⟨t',rfl⟩:=ry;exact ne_str (ZB I q (congrArg not Zed))
  |_=>exact absurd (show false=true from hs) Bool.false_ne_true
 |byt i=>
  obtain⟨t,rfl⟩:=rx
  cases y with
  |byt j=>obtain⟨t',rfl⟩:=ry;exact PySem.W.ne_bytes (ZB I q (congrArg not Zef))
  |_=>exact absurd (show false=true from hs) Bool.false_ne_true
 |_=>cases y<;>exact absurd (show false=true from hs) Bool.false_ne_true
theorem Zax:OpR X (compareOp .Lt) (rI0 fun i j=> .bl (decide (i<j))):=ZiD fun _ _ _ _ _ _ _ q=>lt_int q
theorem ZjM:OpR X (compareOp .LtE) (rI0 fun i j=> .bl (decide (i<=j))):=ZiD fun _ _ _ _ _ _ _ q=>le_int q
theorem Zf8:OpR X (compareOp .Gt) (rI0 fun i j=> .bl (decide (j<i))):=ZiD fun _ _ _ _ _ _ _ q=>gt_int q
theorem Zcj:OpR X (compareOp .Is) (fun x y H Q=>y= .non/\Q (.bl (decide (x= .non))) H):=by
 intro pins s σ H x y v u Q I rx ry h
 obtain⟨rfl,q⟩:=h
 cases ry
 refine is_none_gen (ZB I q ?_)
 cases x<;>first
  |(cases rx;rfl)
  |(obtain⟨t,rfl⟩:=rx;rfl)
theorem Y9:OpR X (compareOp .IsNot) (fun x y H Q=>y= .non/\Q (.bl (!decide (x= .non))) H):=by
 intro pins s σ H x y v u Q I rx ry h
 obtain⟨rfl,q⟩:=h
 cases ry
 refine isnot_none_gen (ZB I q ?_)
 cases x<;>first
  |(cases rx;rfl)
  |(obtain⟨t,rfl⟩:=rx;rfl)
theorem Zv(b:Expr){op:CmpOp}(h:op≠.In:=by decide)(h2:op≠.NotIn:=by decide):behindInMarks op b=false:=by
 have e1:(op==CmpOp.In)=false:=by cases op<;>first|rfl|exact absurd rfl h
 have e2:(op==CmpOp.NotIn)=false:=by cases op<;>first|rfl|exact absurd rfl h2
 cases b<;>simp[behindInMarks,e1,e2]
theorem YH{op:CmpOp}{r:R2}(ho:OpR X (compareOp op) r)(ha:PE X a ta)(hb:PE X b tb)(hm:behindInMarks op b=false):PE X (.Compare a [op] [b] pos) (tOp r ta tb):=by
 intro pins s σ H Q I h
 exact wpAny_Compare1 (Zjh ha hb I h fun v u s2 x y H2 I2 rx ry q=>ho pins s2 σ H2 x y v u Q I2 rx ry q) hm
def Zjs(t:TE):TT:=fun σ H Q=>t σ H fun x H'=>∃k,x= .bl k/\Q k H'
theorem Zm{op:CmpOp}{r:R2}(ho:OpR X (compareOp op) r)(ha:PE X a ta)(hb:PE X b tb)(hm:behindInMarks op b=false):PT X (.Compare a [op] [b] pos) (Zjs (tOp r ta tb)):=by
 intro pins s σ H Q I h
 refine wpAny_isTrue_Compare1 (thn (ha pins s σ H _ I h) fun v s1⟨x,H1,I1,r1,q1⟩=>thn (hb pins s1 σ H1 _ I1 q1) fun u s2⟨y,H2,I2,r2,q2⟩=>
  thn (ho pins s2 σ H2 x y v u _ I2 r1 r2 q2) fun c s3 xq1=>?_) hm
 obtain⟨z,H3,I3,r3,k,e,q3⟩:=xq1
 subst e
 cases r3
 exact wpAny_truthy_bool ⟨H3,I3,q3⟩
def Zig(r r':R2)(ta tb tc:TE):TE:=fun σ H Q=>ta σ H fun x H1=>tb σ H1 fun y H2=>r x y H2 fun z H3=>∃k,z= .bl k/\
 (if k=true then tc σ H3 fun w' H4=>r' y w' H4 Q else Q (.bl false) H3)
theorem Zf3{op op':CmpOp}{r r':R2}(ho:OpR X (compareOp op) r)(ho':OpR X (compareOp op') r')(ha:PE X a ta)(hb:PE X b tb)(hc:PE X c tc)
  (hm:lastMarks [op,op'] [b,c]=false:=by with_unfolding_all rfl):PE X (.Compare a [op,op'] [b,c] pos) (Zig r r' ta tb tc):=by
 intro pins s σ H Q I h
 refine Compare_chain (thn (ha pins s σ H _ I h) fun v s1⟨x,H1,I1,r1,q1⟩=>chain_link (thn (hb pins s1 σ H1 _ I1 q1) fun u s2⟨y,H2,I2,r2,q2⟩=>
  thn (ho pins s2 σ H2 x y v u _ I2 r1 r2 q2) fun d s3 xq1=>?_)) hm
 obtain⟨z,H3,I3,r3,k,e,q3⟩:=xq1
 subst e
 cases r3
 refine wpAny_truthy_bool ?_
 cases k with
 |false=>exact ite_ff ⟨.bl false,H3,I3,rfl,q3⟩
 |true=>exact ite_tt (chain_last (thn (hc pins s3 σ H3 _ I3 q3) fun w' s4⟨z',H4,I4,r4,q4⟩=>ho' pins s4 σ H4 y z' u w' Q I4 r2 r4 q4))
def Zlg(K:PySem.W.Frag)(x:V)(H:Hp)(k:Bool):Prop:=
 match x with
 | .non=>k=false
 | .bl b=>k=b
 | .int i=>k=(i !=0)
 | .str y=>y.length<=sizeLine/\k=((y.length:Int) !=0)
 | .byt y=>y.size<=sizeLine/\k=((y.size:Int) !=0)
 | .ref p=>(∃xs,SqL K H p xs/\k= !xs.isEmpty)\/(∃xs,SqT K H p xs/\k= !xs.isEmpty)\/∃kvs,H p=some (.dK kvs)/\k= !kvs.isEmpty
 |_=>False
theorem Zd7{κ:Type}{kvs:List (κ×V)}{vs:List (κ×Value)}(r:KV kvs vs):(!vs.isEmpty)= !kvs.isEmpty:=by
 cases r<;>rfl
theorem Zbg{xs:List V}{its:List Value}(r:Vals xs its):(!its.toArray.isEmpty)= !xs.isEmpty:=by
 cases r<;>simp
theorem Zat:(sizeLine:Nat)<2^63:=by rw[sizeLine_eq];decide
theorem ZhZ:Zmd X (fun x H Q=>∃k,Zlg X.K x H k/\Q k H):=by
 intro pins s σ H x v Q I rx h
 obtain⟨k,e,q⟩:=h
 have hl:=Zat
 have hs:sizeLine=16777216:=sizeLine_eq
 cases x with
 |non=>
  cases rx
  have e':k=false:=e
  subst e'
  exact truthy_none ⟨H,I,q⟩
 |bl b=>
  cases rx
  have e':k=b:=e
  subst e'
  exact wpAny_truthy_bool ⟨H,I,q⟩
 |int i=>
  obtain⟨t,rfl⟩:=rx
  have e':k=(i !=0):=e
  subst e'
  exact PySem.P.truthy_int ⟨H,I,q⟩
 |str y=>
  obtain⟨t,rfl⟩:=rx
  obtain⟨hy,e'⟩:y.length<=sizeLine/\k=((y.length:Int) !=0):=e
  subst e'
  exact PySem.P.truthy_str (by omega) ⟨H,I.tok _,q⟩
 |byt y=>
  obtain⟨t,rfl⟩:=rx
  obtain⟨hy,e'⟩:y.size<=sizeLine/\k=((y.size:Int) !=0):=e
  subst e'
  exact PySem.W.truthy_bytes (by omega) ⟨H,I.tok _,q⟩
 |ref p=>
  cases rx
  have e':(∃xs,SqL X.K H p xs/\k= !xs.isEmpty)\/(∃xs,SqT X.K H p xs/\k= !xs.isEmpty)\/∃kvs,H p=some (.dK kvs)/\k= !kvs.isEmpty:=e
  rcases e' with⟨xs,hx,e'⟩|⟨xs,hx,e'⟩|⟨kvs,hx,e'⟩
  ·subst e'
   obtain⟨its,r,pl,hz⟩:=I.list hx
   have hlen:=r.length
   exact wpAny_truthy_list pl.isList (by simp only[List.size_toArray];omega) ⟨H,I.tok _,by rw[Zbg r];exact q⟩
  ·subst e'
   obtain⟨its,r,pl,hz⟩:=I.tuple hx
   have hlen:=r.length
   exact truthy_tuple pl (by simp only[List.size_toArray];omega) ⟨H,I.tok _,by rw[Zbg r];exact q⟩
  ·subst e'
   obtain⟨hz,hS,vs,r,m⟩:kvs.length<=sizeLine/\(p==sysModules)=false/\∃vs,KV kvs vs/\s.heap.DictOf (ZQ X.prog X.w) p vs:=I.hok p _ hx
   have hlen:kvs.length=vs.length:=Paired.length r
   exact wpAny_truthy_dict hS m (by omega) ⟨H,I.tok _,by rw[Zd7 r];exact q⟩
 |_=>exact(show False from e).elim
theorem ZcA(ha:PE X a ta)(he:∀whole,isTrue a X.env whole=(do let v<-whole;standAt a.pos;holding [v] (truthy v))):
  PT X a (fun σ H Q=>ta σ H fun x H'=>∃k,Zlg X.K x H' k/\Q k H'):=by
 intro pins s σ H Q I h
 exact isTrue_plain (thn (ha pins s σ H _ I h) fun v s1⟨x,H1,I1,r1,q1⟩=>ZhZ pins s1 σ H1 x v Q I1 r1 q1) (he _)
theorem vals1{x:V}{us:List Value}(r:Vals [x] us):∃u,us=[u]/\RelV x u:=by
 cases r with
 |cons r1 r2=>cases r2;exact⟨_,rfl,r1⟩
theorem vals2{x y:V}{us:List Value}(r:Vals [x,y] us):∃u w',us=[u,w']/\RelV x u/\RelV y w':=by
 cases r with
 |cons r1 r2=>
  cases r2 with
  |cons r3 r4=>cases r4;exact⟨_,_,rfl,r1,r3⟩
theorem ZbU(hc:X.calm=true):CallR X (.builtin "max") (fun xs H Q=>∃i j,xs=[.int i,.int j]/\Q (.int (if j>i then j else i)) H):=by
 intro pins s σ H xs us Q I r h
 obtain⟨i,j,rfl,q⟩:=h
 obtain⟨u,w',rfl,⟨t,rfl⟩,⟨t',rfl⟩⟩:=vals2 r
 refine max_two_ints (I.ok.hd hc) fun h' tk k=>⟨_,H,I.kept k,?_,q⟩
 by_cases hj:j>i
 ·rw[if_pos hj,if_pos hj];exact⟨_,rfl⟩
 ·rw[if_neg hj,if_neg hj];exact⟨_,rfl⟩
theorem ZbS(hc:X.calm=true):CallR X (.builtin "min") (fun xs H Q=>∃i j,xs=[.int i,.int j]/\Q (.int (if j<i then j else i)) H):=by
 intro pins s σ H xs us Q I r h
 obtain⟨i,j,rfl,q⟩:=h
 obtain⟨u,w',rfl,⟨t,rfl⟩,⟨t',rfl⟩⟩:=vals2 r
 refine min_two_ints (I.ok.hd hc) fun h' tk k=>⟨_,H,I.kept k,?_,q⟩
 by_cases hj:j<i
 ·rw[if_pos hj,if_pos hj];exact⟨_,rfl⟩
 ·rw[if_neg hj,if_neg hj];exact⟨_,rfl⟩
end
structure ObjM(h:Heap)(x dx C:Addr)(mA:Str->Option Value):Prop where
 obj:h.get? x=some (PySem.W.instObj C dx)
 ns:h.Ns1 dx mA
 ne:dx≠x
theorem ZbJ{h:Heap}{dx:Addr}{mA:Str->Option Value}(n:h.Ns1 dx mA):∃od,h.get? dx=some od/\∀name,PySem.W.lookIn name od=some (mA name):=by
 obtain⟨o,es,ep,ho,hd,hk,_,hm⟩:=n
 refine⟨o,ho,fun name=>?_⟩
 have e:=hm name
 unfold nsFind findBy at e
 rw[<-Array.find?_toList]at e
 unfold PySem.W.lookIn
 rw[hd]
 dsimp only
 split
 ·rename_i y q
  rw[q]at e
  exact congrArg some e
 ·rename_i q
  rw[q]at e
  have a:es.toList.any (·.refKey)=false:=by
   rw[List.any_eq_false]
   intro y hy
   obtain⟨z,t,hkey⟩:=hk y (Array.mem_toList_iff.mp hy)
   simp[DictEntry.refKey,hkey]
  have a':¬es.toList.any (·.refKey)=true:=by rw[a];exact Bool.false_ne_true
  rw[if_neg a']
  exact congrArg some e
theorem ObjM.look{h:Heap}{x dx C:Addr}{mA:Str->Option Value}(I:ObjM h x dx C mA):∃od,PySem.W.InstAt h x (PySem.W.instObj C dx) C (some od)/\∀name,PySem.W.lookIn name od=some (mA name):=
 let⟨od,ho,hl⟩:=ZbJ I.ns
 ⟨od,⟨I.obj,rfl,rfl,ho⟩,hl⟩
section
variable{prog:Program}{w:World}{A:Around}{E:Value->Shared->Prop}{s:Shared}{K:PySem.W.Frag}{x dx C f:Addr}{mA:Str->Option Value}{name:Str}{v:Value}
theorem ZfY{pl:Sem Bool}{Q:Value×List Value->Shared->Prop}(X:K.In s.heap)(I:ObjM s.heap x dx C mA)(hg:PySem.W.plainGet K C name=true)
  (hf:PySem.W.findIn K (.ref C) name=some (some (.ref f)))(ht:PySem.W.isFn K (.ref f)=true)(hv:mA name=none)(h:Q (.ref f,[.ref x]) s):
  wpAny (model prog w) A (getMethod (.ref x) name pl) Q E s:=by
 obtain⟨od,J,hl⟩:=I.look
 exact PySem.W.method_fn X J (PySem.W.plainGet_of hg).1 (PySem.W.plainGet_of hg).2 hf (beq_iff_eq.mp ht) (by show(PySem.W.lookIn name od).map (·.isSome)=some false;rw[hl,hv];rfl) h
theorem Ze9{R:Result->Shared->Prop}(X:K.In s.heap)(hm:PySem.W.makesIn K C=true)
  (hi:PySem.W.findIn K (.ref C) "__init__"=some (some (.builtin "object.__init__")))
  (hb:∀self,PySem.W.Looks (model prog w) s.heap (bindSpecial (.builtin "object.__init__") self) (.builtin "object.__init__",[self]))
  (h:codeAny (model prog w) (A.under (.builtin "type.__call__" ⟨[.ref C],[]⟩)) (.call (.builtin "object.__init__") ⟨[.ref (s.heap.objs.size+1)],[]⟩) (PySem.W.InitBack (s.heap.objs.size+1) R)
   {s with heap:=(s.heap.push PySem.W.emptyDict).push (PySem.W.instObj C s.heap.objs.size)}):
  codeAny (model prog w) A (.call (.ref C) ⟨[],[]⟩) R s:=by
 obtain⟨hh,g,d,t,os⟩:=s
 exact PySem.W.make_core (PySem.W.makes_of X hm) (PySem.W.looks_findIn X hi) hb (.inr ⟨rfl,rfl⟩) h
end
theorem RelO.some_of{v:V}{o:Option Value}(r:RelO (some v) o):∃u,o=some u/\RelV v u:=by
 cases o with
 |none=>exact(show False from r).elim
 |some u=>exact⟨u,rfl,r⟩
theorem RelO.none_of{o:Option Value}(r:RelO none o):o=none:=by
 cases o with
 |none=>rfl
 |some u=>exact(show False from r).elim
theorem ZeF{v:V}{u:Value}(r:RelV v u):PySem.W.handedIn u=true:=by
 cases v with
 |non=>cases(show u=Value.none from r);rfl
 |bl b=>cases(show u=Value.bool b from r);rfl
 |int i=>obtain⟨t,e⟩:=(show∃t,u=Value.int i t from r);cases e;rfl
 |str x=>obtain⟨t,e⟩:=(show∃t,u=Value.str x t from r);cases e;rfl
 |byt b=>obtain⟨t,e⟩:=(show∃t,u=Value.bytes b t from r);cases e;rfl
 |flt b=>obtain⟨t,e⟩:=(show∃t,u=Value.float b t from r);cases e;rfl
 |ref a=>cases(show u=Value.ref a from r);rfl
 |ty n=>cases(show u=Value.type n from r);rfl
section
variable{P:Program}{w:World}{H H':Hp}{h h':Heap}{a C dx:Addr}{fs fs':List (Str×V)}
theorem ZdX(hok:HOk P w H h)(e:H a=some (.ins C dx fs)):∃mA,ObjM h a dx C mA/\(∀f,RelO (fs.lookup f) (mA f))/\PySem.Within mA (fs.map (·.1))/\fs.length<=1000/\H dx=some (.own a):=by
 obtain⟨d,z,ne,ob,mA,n,r,q⟩:=(show ObjOk P w H h a (.ins C dx fs)from hok a _ e)
 exact⟨mA,⟨ob,n,ne⟩,r,q,z,d⟩
end
structure Cls(K:PySem.W.Frag)(C:Addr):Prop where
 pg:PySem.W.plainGet K C Str.empty=true
 hd:PySem.W.hasDictIn K C=true
 po:PySem.W.plainOver K C=true
 sa:PySem.W.findIn K (.ref C) "__setattr__"=some (some (.builtin "object.__setattr__"))
theorem Cls.get{K:PySem.W.Frag}{C:Addr}(c:Cls K C)(f:Str):PySem.W.plainGet K C f=true:=c.pg
structure ZdI(K:PySem.W.Frag)(C:Addr)(m:Str)(f:Addr):Prop where
 at_:PySem.W.findIn K (.ref C) m=some (some (.ref f))
 fn:PySem.W.isFn K (.ref f)=true
 kp:PySem.W.keepIn K (.ref f)=true
section
variable{X:Cx}{pins:List (Addr×Obj)}{σ:St}{H:Hp}{s:Shared}{a C dx:Addr}{fs:List (Str×V)}{f:Str}{v:V}{A:Around}{E:Value->Shared->Prop}
theorem Zbi{m:Str}{g:Addr}{pl:Sem Bool}{Q:Value×List Value->Shared->Prop}(I:Inv X pins σ H s)(e:H a=some (.ins C dx fs))(c:Cls X.K C)(k:ZdI X.K C m g)(l:fs.lookup m=none)
  (h:Q (.ref g,[.ref a]) s):wpAny (model X.prog X.w) A (getMethod (.ref a) m pl) Q E s:=by
 obtain⟨mA,O,r,_,_,_⟩:=ZdX I.hok e
 have hn:mA m=none:=RelO.none_of (by rw[<-l];exact r m)
 exact ZfY I.kIn O (c.get m) k.at_ k.fn hn h
theorem Inv.made(I:Inv X pins σ H s):Inv X pins σ (upd (upd H s.heap.objs.size (.own (s.heap.objs.size+1))) (s.heap.objs.size+1) (.ins C s.heap.objs.size []))
  {s with heap:=(s.heap.push PySem.W.emptyDict).push (PySem.W.instObj C s.heap.objs.size)}:=by
 have e1:(s.heap.push PySem.W.emptyDict).get? s.heap.objs.size=some PySem.W.emptyDict:=Heap.get?_push_size s.heap rfl
 have e2:((s.heap.push PySem.W.emptyDict).push (PySem.W.instObj C s.heap.objs.size)).get? (s.heap.objs.size+1)=some (PySem.W.instObj C s.heap.objs.size):=by
  have:=Heap.get?_push_size (s.heap.push PySem.W.emptyDict) (o:=PySem.W.instObj C s.heap.objs.size) rfl
  rwa [Heap.size_push]at this
 have e3:(s.heap.push PySem.W.emptyDict).Ns s.heap.objs.size (fun _=>none):=⟨PySem.W.emptyDict,#[],_,e1,rfl,(fun e he=>absurd he (by simp)),fun _=>rfl⟩
 have I1:=I.laid (a:=s.heap.objs.size) (o:= .own (s.heap.objs.size+1)) (h':=s.heap.push PySem.W.emptyDict) (t':=s.toks) (fun b u q=>Heap.get?_push_of_some _ q) (Nat.le_refl _) ⟨_,e1⟩
 refine I1.laid (a:=s.heap.objs.size+1) (o:= .ins C s.heap.objs.size []) (t':=s.toks) (fun b u q=>Heap.get?_push_of_some _ q) (Nat.le_of_eq (Heap.size_push _ _)) ?_
 have ne:s.heap.objs.size≠s.heap.objs.size+1:=Nat.ne_of_lt (Nat.lt_succ_self _)
 refine⟨by rw[Zf ne,Zd],Nat.zero_le _,ne,e2,fun _=>none,(Heap.Ns1.of_empty e3).at fun o q=>Heap.get?_push_of_some _ q,fun _=>True.intro,fun y hy=>absurd rfl hy⟩
theorem Zh3{prog:Program}{w:World}{env:Env}{e:Expr}{f:Str}{pos:Pos}{s:Shared}{Q:Value->Shared->Prop}(hb:attributeBase e f env (eval e env)=eval e env)
  (h:wpAny (model prog w) A (eval e env) (fun o s₁=>wpAny (model prog w) A (getAttr o f true) Q E s₁) E s):wpAny (model prog w) A (eval (.Attribute e f pos) env) Q E s:=
 Attribute_any_ h (by rw[arm_eval_Attribute,hb])
end
section
variable{X:Cx}{o e value:Expr}{f:Str}{pos pos' tpos:Pos}{ta tv:TE}
theorem ZhS{pl:Sem Bool}{m:Str}{apos:Pos}{args:List Expr}{pins:List (Addr×Obj)}{s:Shared}{σ:St}{H:Hp}{Q:Value->Shared->Prop}{te:TE}(he:PE X e te)(I:Inv X pins σ H s)
  (h:te σ H fun x H1=>∃a C dx fs g,x= .ref a/\H1 a=some (.ins C dx fs)/\Cls X.K C/\ZdI X.K C m g/\fs.lookup m=none/\
   ∀s1,Inv X pins σ H1 s1->wpAny (model X.prog X.w) X.A (callWith pos (.ref g) [.ref a] (backTo pos (starEach args X.env)) (backToKw pos (keywordEach [] X.env))) Q X.xe s1)
  (ht:eval (.Call (.Attribute e m apos) args [] pos) X.env=(do
   let ov<-eval e X.env
   standAt apos.atName
   let(f,first)<-holding [ov] (getMethod ov m pl)
   callWith pos f first (backTo pos (starEach args X.env)) (backToKw pos (keywordEach [] X.env)))):
  wpAny (model X.prog X.w) X.A (eval (.Call (.Attribute e m apos) args [] pos) X.env) Q X.xe s:=by
 refine PySem.W.methodCall_KW (pl:=pl) (thn (he pins s σ H _ I h) fun u s1 xq1=>?_) ht
 obtain⟨x,H1,I1,rx,a,C,dx,fs,g,ex,ea,c,k,l,q⟩:=xq1
 subst ex
 obtain rfl:u=Value.ref a:=rx
 exact Zbi I1 ea c k l (q s1 I1)
end
section
variable{X:Cx}{pins:List (Addr×Obj)}{σ:St}{H:Hp}{s:Shared}{A:Around}{E:Value->Shared->Prop}{Q:Value->Shared->Prop}{c:Value}{b:Bool}
inductive Zag(K:PySem.W.Frag)(H:Hp):V->Value->Prop where
 |non:Zag K H .non (.type "NoneType")
 |bl (x:Bool):Zag K H (.bl x) (.type "bool")
 |int (i:Int):Zag K H (.int i) (.type "int")
 |str (x:Str):Zag K H (.str x) (.type "str")
 |flt (x:UInt64):Zag K H (.flt x) (.type "float")
 |lst {a:Addr} {xs:List V} (e:H a=some (.lst xs)):Zag K H (.ref a) (.type "list")
 |frz {a:Addr} {o:Obj} {xs:List V} (e:H a=some (.frz o (.lst xs))):Zag K H (.ref a) (.type "list")
 |tup {a:Addr} {xs:List V} (e:H a=some (.tup xs)):Zag K H (.ref a) (.type "tuple")
 |dK {a:Addr} {kvs:List (Key×V)} (e:H a=some (.dK kvs)):Zag K H (.ref a) (.type "dict")
 |dT {a:Addr} {kvs:List (List Key×V)} (e:H a=some (.dT kvs)):Zag K H (.ref a) (.type "dict")
 |ins {a C dx:Addr} {fs:List (Str×V)} (e:H a=some (.ins C dx fs)) (cl:Cls K C) (ha:PySem.W.findIn K (.ref C) "__class__"=some (some (.builtin "object.__class__")))
   (hn:PySem.W.specialIn K (.builtin "object.__class__") "__get__"=some (some (.builtin "getset_descriptor.__get__"))) (htk:PySem.W.takesIn K (.builtin "object.__class__")=some true)
   (hm:PySem.W.mroIn K C (.type "object")=some true):Zag K H (.ref a) (.ref C)
theorem ZeD{x:V}{u t:Value}(I:Inv X pins σ H s)(rx:RelV x u)(ty:Zag X.K H x t)(e:PySem.W.kitOne X.K t c=some b)(h:∀tk,Q (.bool b) {s with toks:=tk}):
  wpAny (model X.prog X.w) A (call (.builtin "isinstance") [u,c]) Q E s:=by
 cases ty with
 |non=>cases(show u=Value.none from rx);exact PySem.W.kia_one PySem.W.kitx_none I.kIn True.intro e (fun z=>nomatch z) h
 |bl y=>cases(show u=Value.bool y from rx);exact PySem.W.kia_one PySem.W.kitx_bool I.kIn True.intro e (fun z=>nomatch z) h
 |int i=>obtain⟨t,q⟩:=(show∃t,u=Value.int i t from rx);cases q;exact PySem.W.kia_one PySem.W.kitx_int I.kIn True.intro e (fun z=>nomatch z) h
 |str y=>obtain⟨t,q⟩:=(show∃t,u=Value.str y t from rx);cases q;exact PySem.W.kia_one PySem.W.kitx_str I.kIn True.intro e (fun z=>nomatch z) h
 |flt y=>obtain⟨t,q⟩:=(show∃t,u=Value.float y t from rx);cases q;exact PySem.W.kia_one PySem.W.kitx_float I.kIn True.intro e (fun z=>nomatch z) h
 |@lst a xs ea=>
  cases(show u=Value.ref a from rx)
  obtain⟨_,_,n,_,h1⟩:=(show ObjOk X.prog X.w H s.heap a (.lst xs)from I.hok a _ ea)
  exact PySem.W.kia_one PySem.W.kitx_list I.kIn ⟨_,h1,rfl⟩ e (fun z=>nomatch z) h
 |@frz a ob xs ea=>
  cases(show u=Value.ref a from rx)
  obtain⟨_,_,_,n,_,h1⟩:=(show ObjOk X.prog X.w H s.heap a (.frz ob (.lst xs))from I.hok a _ ea)
  exact PySem.W.kia_one PySem.W.kitx_list I.kIn ⟨_,h1,rfl⟩ e (fun z=>nomatch z) h
 |@tup a xs ea=>
  cases(show u=Value.ref a from rx)
  obtain⟨_,_,_,p⟩:=(show ObjOk X.prog X.w H s.heap a (.tup xs)from I.hok a _ ea)
  obtain⟨o,h1,h2,_⟩:=p
  exact PySem.W.kia_one PySem.W.kitx_tuple I.kIn ⟨o,h1,h2⟩ e (fun z=>nomatch z) h
 |@dK a kvs ea=>
  cases(show u=Value.ref a from rx)
  obtain⟨_,_,vs,_,p⟩:=(show ObjOk X.prog X.w H s.heap a (.dK kvs)from I.hok a _ ea)
  obtain⟨o,es,ep,h1,h2,_⟩:=p
  exact PySem.W.kia_one PySem.W.kitx_dict I.kIn ⟨o,h1,h2.1⟩ e (fun z=>nomatch z) h
 |@dT a kvs ea=>
  cases(show u=Value.ref a from rx)
  obtain⟨_,_,xs,_,o,es,ep,h1,h2,_⟩:=(show ObjOk X.prog X.w H s.heap a (.dT kvs)from I.hok a _ ea)
  exact PySem.W.kia_one PySem.W.kitx_dict I.kIn ⟨o,h1,h2.1⟩ e (fun z=>nomatch z) h
 |@ins a C dx fs ea cl ha hn htk hm=>
  cases(show u=Value.ref a from rx)
  obtain⟨mA,O,_⟩:=ZdX I.hok ea
  obtain⟨od,J,_⟩:=O.look
  exact PySem.W.kia_one (PySem.W.kitx_own (cl.get _) cl.hd ha hn htk hm) I.kIn J e (fun z=>nomatch z) h
end
structure Room(k:Nat)(A:Around):Prop where
 hd:A.handled=none
 dp:A.depth+3*k+5<recursionLimit
 un:A.units+16*k+200<cLine
theorem Room.mono{j k:Nat}{A:Around}(r:Room k A)(h:j<=k):Room j A:=⟨r.hd,by have:=r.dp;omega,by have:=r.un;omega⟩
theorem Room.deeper{k:Nat}{A:Around}(r:Room (k+1) A)(env:Env):Room k (A.deeper env):=
 ⟨r.hd,by have:=r.dp;show A.depth+1+3*k+5<_;omega,by have:=r.un;show A.units+3+16*k+200<_;omega⟩
theorem Room.in1{k:Nat}{A:Around}(r:Room (k+1) A):Room k A.in1:=
 ⟨r.hd,by have:=r.dp;show A.depth+3*k+5<_;omega,by have:=r.un;show A.units+1+16*k+200<_;omega⟩
theorem Zd6{A:Around}{C:Addr}{us:List Value}{kw:List (Str×Value)}:(A.under (.builtin "type.__call__" ⟨.ref C::us,kw⟩)).depth=A.depth+1:=by
 first|rfl|simp[Around.under,Code.weight,Code.isCreation,Code.isGuard,Code.isCaller,Code.frames,Code.isFrame,guardIds]
theorem Zd5{A:Around}{C:Addr}{us:List Value}{kw:List (Str×Value)}:(A.under (.builtin "type.__call__" ⟨.ref C::us,kw⟩)).units=A.units+1:=by
 first|rfl|simp[Around.under,Code.cUnits,Code.frames,Code.isFrame]
theorem Room.make{k:Nat}{A:Around}(r:Room (k+1) A)(C:Addr)(us:List Value)(kw:List (Str×Value)):Room k (A.under (.builtin "type.__call__" ⟨.ref C::us,kw⟩)):=
 ⟨r.hd,by have:=r.dp;rw[Zd6];omega,by have:=r.un;rw[Zd5];omega⟩
theorem Room.depth{k:Nat}{A:Around}(r:Room k A):A.depth<recursionLimit:=by have:=r.dp;omega
theorem Room.units{k:Nat}{A:Around}(r:Room k A):A.units+64<cLine:=by have:=r.un;omega
def tNil:TA:=fun _ H Q=>Q [] H
def ZbA(ta:TE)(tr:TA):TA:=fun σ H Q=>ta σ H fun x H1=>tr σ H1 fun xs H2=>Q (x::xs) H2
section
variable{X:Cx}{e:Expr}{es:List Expr}{te:TE}{t:TA}{pos:Pos}
theorem Za:PA X [] tNil:=fun _ _ _ _ H Q I h=>Calls.spliced_nil ⟨[],H,I,.nil,h⟩
theorem JV(ha:PE X e te)(hr:PA X es t)(hs:starEach (e::es) X.env=(false,eval e X.env)::starEach es X.env:=by rfl):PA X (e::es) (ZbA te t):=by
 intro pos pins s σ H Q I h
 rw[hs]
 show wpAny _ _ (spliced ((false,eval e X.env)::backTo pos (starEach es X.env))) _ _ s
 refine Calls.spliced_cons (thn (ha pins s σ H _ I h) fun u s1 xq1=>?_)
 obtain⟨x,H1,I1,r1,q1⟩:=xq1
 exact thn (hr pos pins s1 σ H1 _ I1 q1) fun us s2⟨xs,H2,I2,r2,q2⟩=>⟨x::xs,H2,I2,.cons r1 r2,q2⟩
def Zll(t:TA):TE:=fun σ H Q=>t σ H fun xs H1=>xs.length<=sizeLine/\∀p,H1 p=none->Q (.ref p) (upd H1 p (.tup xs))
def ZgE(t:TA):TE:=fun σ H Q=>t σ H fun xs H1=>xs.length<=sizeLine/\∀p,H1 p=none->Q (.ref p) (upd H1 p (.lst xs))
theorem JF{x1}(h:PA X es t):PE X (.Tuple es x1 pos) (Zll t):=by
 intro pins s σ H Q I hq
 refine wpAny_Tuple_spliced (thn (h pos pins s σ H _ I hq) fun us s1⟨xs,H1,I1,r,z,q⟩=>⟨by rw[<-r.length];exact z,?_⟩)
 have hf:H1 s1.heap.objs.size=none:=I1.hok.fresh (Nat.le_refl _)
 refine⟨.ref s1.heap.objs.size,upd H1 s1.heap.objs.size (.tup xs),I1.laid (t':=s1.toks) (fun b u e=>Heap.get?_push_of_some _ e) (Nat.le_refl _) ?_,rfl,q _ hf⟩
 exact⟨z,us,r,⟨_,Heap.get?_push_size _ rfl,rfl,_,rfl⟩⟩
theorem Yd(h:PA X es t):PE X (.List es pos) (ZgE t):=by
 intro pins s σ H Q I hq
 refine wpAny_List_spliced (thn (h pos pins s σ H _ I hq) fun us s1⟨xs,H1,I1,r,z,q⟩=>⟨by rw[<-r.length];exact z,?_⟩)
 have hf:H1 s1.heap.objs.size=none:=I1.hok.fresh (Nat.le_refl _)
 refine⟨.ref s1.heap.objs.size,upd H1 s1.heap.objs.size (.lst xs),I1.laid (t':=s1.toks) (fun b u e=>Heap.get?_push_of_some _ e) (Nat.le_refl _) ?_,rfl,q _ hf⟩
 exact⟨z,us,0,r,Heap.get?_push_size _ rfl⟩
end
abbrev Sp:=List V->Hp->VK->XK->Prop
abbrev CXT:=List Env->Hp->Shared->XK->Value->Shared->Prop
structure Env0(P:Program)(w:World)(K:PySem.W.Frag)(mg:Str->Option Value)(base:Heap)(A:Around)(outer:List Env)(s:Shared)(H:Hp):Prop where
 frames:A.frames=some outer
 mod:Mod K mg base
 bs:∀b o,base.get? b=some o->s.heap.get? b=some o/\H b=none
 bsz:base.objs.size<=s.heap.objs.size
 funs:s.heap.FunFrames base outer
 frf:∀b∈frs outer,H b=none
 hok:HOk P w H s.heap
 bare:AllBare s.gens
def CE(outer:List Env)(P:Program)(w:World)(H:Hp)(s:Shared)(Q:VK)(u:Value)(s':Shared):Prop:=
 ∃v H',s'.os=s.os/\AllBare s'.gens/\Un (frs outer) [] H H' s.heap s'.heap/\HOk P w H' s'.heap/\RelV v u/\Q v H'
def CR(CX:CXT)(outer:List Env)(P:Program)(w:World)(H:Hp)(s:Shared)(Q:VK)(E:XK)(r:Result)(s':Shared):Prop:=
 match r with
 | .ok (.ret u)=>CE outer P w H s Q u s'
 | .ok _=>False
 | .error e=>CX outer H s E e s'
structure FnOk(P:Program)(w:World)(K:PySem.W.Frag)(mg:Str->Option Value)(base:Heap)(CX:CXT)(k:Nat)(f:Addr)(fd:FuncData)(ps:List Str)(sp:Sp):Prop where
 len:∀vs H Q E,sp vs H Q E->vs.length=ps.length
 run:∀(A:Around)(outer:List Env)(s:Shared)(H:Hp)(args:Args)(us:List Value)(vs:List V)(Q:VK)(E:XK),Room k A->Env0 P w K mg base A outer s H->BindsTo s fd args (ps.zip us)->Vals vs us->sp vs H Q E->
  codeAny (model P w) A (.call (.ref f) args) (CR CX outer P w H s Q E) s
theorem FnOk.mono{P:Program}{w:World}{K:PySem.W.Frag}{mg:Str->Option Value}{base:Heap}{CX:CXT}{j k:Nat}{f:Addr}{fd:FuncData}{ps:List Str}{sp:Sp}(F:FnOk P w K mg base CX j f fd ps sp)(h:j<=k):
  FnOk P w K mg base CX k f fd ps sp:=⟨F.len,fun A outer s H args us vs Q E hr=>F.run A outer s H args us vs Q E (hr.mono h)⟩
theorem Env0.make{P:Program}{w:World}{K:PySem.W.Frag}{mg:Str->Option Value}{base:Heap}{A:Around}{outer:List Env}{s:Shared}{H:Hp}(e:Env0 P w K mg base A outer s H)(C:Addr)(us:List Value)(kw:List (Str×Value)):
  Env0 P w K mg base (A.under (.builtin "type.__call__" ⟨.ref C::us,kw⟩)) outer s H:=⟨by first|exact e.frames|(simpa[Around.under,Code.envs,Code.isFrame,pushEnvs]using e.frames),e.mod,e.bs,e.bsz,e.funs,e.frf,e.hok,e.bare⟩
theorem Env0.in1{P:Program}{w:World}{K:PySem.W.Frag}{mg:Str->Option Value}{base:Heap}{A:Around}{outer:List Env}{s:Shared}{H:Hp}(e:Env0 P w K mg base A outer s H):
  Env0 P w K mg base A.in1 outer s H:=⟨e.frames,e.mod,e.bs,e.bsz,e.funs,e.frf,e.hok,e.bare⟩
section
variable{X:Cx}{pins:List (Addr×Obj)}{σ:St}{H:Hp}{s s':Shared}
theorem Inv.env0(I:Inv X pins σ H s):Env0 X.prog X.w X.K X.mg X.base X.A X.stack s H:=
 ⟨I.ok.frames,I.ok.mod,I.bs,Nat.le_trans I.ok.bsz I.sz,I.stack,I.stkFree,I.hok,I.bare⟩
theorem Inv.after{Q:VK}{u:Value}(I:Inv X pins σ H s)(h:CE X.stack X.prog X.w H s Q u s'):EP X pins σ Q u s':=by
 obtain⟨v,H',os,bare,un,hok,r,q⟩:=h
 obtain⟨hh,g,d,t,os'⟩:=s'
 obtain rfl:os'=s.os:=os
 exact⟨v,H',I.call (h':=hh) (g':=g) (d':=d) (t':=t) (ch:=[]) un hok bare (fun b z=>absurd z (by simp)),r,q⟩
end
def ZbB(sp:Sp)(dvs:List V)(E:XK)(t:TA):TE:=fun σ H Q=>t σ H fun vs H1=>sp (vs++dvs) H1 Q E
def ZhB(C:Addr)(m:Str)(sp:Sp)(dvs:List V)(E:XK)(ta:TE)(t:TA):TE:=fun σ H Q=>ta σ H fun x H1=>∃a dx fs,x= .ref a/\H1 a=some (.ins C dx fs)/\fs.lookup m=none/\
 t σ H1 fun vs H2=>sp (x::(vs++dvs)) H2 Q E
def Binds(K:PySem.W.Frag)(fd:FuncData)(ps:List Str)(ds:List Value):Prop:=
 ∀(s:Shared)(us:List Value),K.In s.heap->(us++ds).length=ps.length->BindsTo s fd ⟨us,[]⟩ (ps.zip (us++ds))
theorem Binds.all{K:PySem.W.Frag}{fd:FuncData}{ps:List Str}(h:∀us:List Value,us.length=ps.length->bindArgs fd ⟨us,[]⟩=pure (ps.zip us)):Binds K fd ps []:=fun s us _ hl=>by
 rw[List.append_nil]at hl⊢
 exact .of_eq (h us hl)
def Zbv(CX:CXT)(X:Cx)(E:XK):Prop:=∀(pins:List (Addr×Obj))(σ:St)(H:Hp)(s:Shared)(e:Value)(s':Shared),Inv X pins σ H s->CX X.stack H s E e s'->X.xe e s'
section
variable{X:Cx}{CX:CXT}{k:Nat}{f C:Addr}{fd:FuncData}{ps:List Str}{sp:Sp}{dvs:List V}{ds:List Value}{E:XK}{x m:Str}{p pos apos:Pos}{e o:Expr}{es:List Expr}{ta:TE}{t:TA}
theorem Zfp{pins:List (Addr×Obj)}{σ:St}{H:Hp}{s:Shared}{Q:VK}{us:List Value}{vs:List V}(F:FnOk X.prog X.w X.K X.mg X.base CX k f fd ps sp)(hr:Room k X.A)(hb:Binds X.K fd ps ds)(hd:Vals dvs ds)(hx:Zbv CX X E)
  (I:Inv X pins σ H s)(r:Vals vs us)(h:sp (vs++dvs) H Q E):wpAny (model X.prog X.w) X.A (call (.ref f) us) (EP X pins σ Q) X.xe s:=by
 have r2:Vals (vs++dvs) (us++ds):=r.append hd
 have hl:(us++ds).length=ps.length:=by rw[<-r2.length];exact F.len _ _ _ _ h
 refine wpAny_call (codeAny_mono (F.run X.A X.stack s H ⟨us,[]⟩ (us++ds) (vs++dvs) Q E hr I.env0 (hb s us I.kIn hl) r2 h) fun r s' hq=>?_)
 cases r with
 |error e=>exact hx pins σ H s e s' I hq
 |ok fl=>
  cases fl with
  |ret u=>exact I.after hq
  |next=>exact False.elim hq
  |brk=>exact False.elim hq
  |cont=>exact False.elim hq
theorem ZdT(F:FnOk X.prog X.w X.K X.mg X.base CX k f fd ps sp)(hr:Room k X.A)(hg:Gl X x)(hm:X.mg x=some (.ref f))(hk:PySem.W.keepIn X.K (.ref f)=true)(hb:Binds X.K fd ps ds)(hd:Vals dvs ds)(hx:Zbv CX X E)
  (ha:PA X (e::es) t)(hdb:(x==("__debug__":Str))=false:=by decide)(he:starEach (e::es) X.env=(false,eval e X.env)::starEach es X.env:=by rfl)(hpl:(backTo pos (starEach es X.env)).any (·.1)=false:=by rfl):
  PE X (.Call (.Name x p) (e::es) [] pos) (ZbB sp dvs E t):=by
 intro pins s σ H Q I h
 refine wpAny_Call_Name_kw (YJ I hg hm ?_ hdb)
 refine PySem.W.callWith_K (h₀:=X.base) I.ok.mod.kin hk (thn (ha pos pins s σ H _ I h) fun us s1⟨vs,H1,I1,r,q⟩=>⟨I1.kIn,?_⟩) he hpl
 exact Zfp F hr hb hd hx I1 r q
theorem Zcg{pl:Sem Bool}(he:PE X o ta)(c:Cls X.K C)(hm:ZdI X.K C m f)(F:FnOk X.prog X.w X.K X.mg X.base CX k f fd ps sp)(hr:Room k X.A)(hb:Binds X.K fd ps ds)(hd:Vals dvs ds)(hx:Zbv CX X E)(ha:PA X (e::es) t)
  (hst:starEach (e::es) X.env=(false,eval e X.env)::starEach es X.env:=by rfl)(hpl:(backTo pos (starEach es X.env)).any (·.1)=false:=by rfl)
  (ht:eval (.Call (.Attribute o m apos) (e::es) [] pos) X.env=(do
   let ov<-eval o X.env
   standAt apos.atName
   let(f,first)<-holding [ov] (getMethod ov m pl)
   callWith pos f first (backTo pos (starEach (e::es) X.env)) (backToKw pos (keywordEach [] X.env))):=by rfl):
  PE X (.Call (.Attribute o m apos) (e::es) [] pos) (ZhB C m sp dvs E ta t):=by
 intro pins s σ H Q I h
 refine PySem.W.methodCall_KW (pl:=pl) (thn (he pins s σ H _ I h) fun u s1 xq1=>?_) ht
 obtain⟨x,H1,I1,rx,a,dx,fs,ex,ea,l,q⟩:=xq1
 subst ex
 obtain rfl:u=Value.ref a:=rx
 refine Zbi I1 ea c hm l ?_
 refine PySem.W.callWith_K (first:=[.ref a]) (h₀:=X.base) I.ok.mod.kin hm.kp (thn (ha pos pins s1 σ H1 _ I1 q) fun us s2⟨vs,H2,I2,r,q2⟩=>⟨I2.kIn,?_⟩) hst hpl
 exact Zfp (us:= .ref a::us) (vs:= .ref a::vs) F hr hb hd hx I2 (.cons rfl r) q2
structure Mk(K:PySem.W.Frag)(C f:Addr):Prop where
 makes:PySem.W.makesIn K C=true
 init:PySem.W.findIn K (.ref C) "__init__"=some (some (.ref f))
 fn:PySem.W.isFn K (.ref f)=true
 kp:PySem.W.keepIn K (.ref C)=true
end
section
variable{X:Cx}{CX:CXT}{k:Nat}{f C:Addr}{fd:FuncData}{ps ks:List Str}{sp:Sp}{E:XK}{x m:Str}{p pos apos kpos:Pos}{e o:Expr}{es:List Expr}{kws:List Keyword}{te ta:TE}{t tk:TA}{nm:Option Str}
variable{g:List Value->List Value->List Value}{gV:List V->List V->List V}
end
structure Zr(N P:List Str)(sc:Scope):Prop where
 kind:sc.kind= .function
 co:sc.isCoroutine=false
 gen:sc.isGenerator=false
 nd:N.Nodup
 pre:N.take P.length=P
 par:∀x∈P,sc.names.lookup x=some .local\/sc.names.lookup x=some .cell
 nofree:∀y∈sc.names,y.2≠.free
theorem ZbV{kindOf:Str->Option NameKind}{x:Str}:∀{binds:List (Str×Value)}{m:Str->Option Value},(∀v,(x,v) ∉ binds)->bindL kindOf binds m x=m x
 |[],_,_=>rfl
 |(n,v)::r,m,h=>by
  unfold bindL
  rw[ZbV fun w hw=>h w (List.mem_cons_of_mem _ hw)]
  split
  ·have:x≠n:=by rintro rfl;exact h v List.mem_cons_self
   simp[this]
  ·rfl
theorem ZbX{kindOf:Str->Option NameKind}{x:Str}:∀{binds:List (Str×Value)}{m:Str->Option Value},(∀v,(x,v) ∉ binds)->bindC kindOf binds m x=m x
 |[],_,_=>rfl
 |(n,v)::r,m,h=>by
  unfold bindC
  rw[ZbX fun w hw=>h w (List.mem_cons_of_mem _ hw)]
  split
  ·rfl
  ·have:x≠n:=by rintro rfl;exact h v List.mem_cons_self
   simp[this]
theorem ZbW{kindOf:Str->Option NameKind}{x:Str}{v:Value}:∀{P:List Str}{vs:List Value}{i:Nat}{m:Str->Option Value},P.Nodup->P[i]?=some x->vs[i]?=some v->kindOf x=some .local->
  bindL kindOf (P.zip vs) m x=some v
 |[],_,_,_,_,h,_,_=>by simp at h
 |_::_,[],_,_,_,_,h,_=>by simp at h
 |p::P,w::vs,0,m,nd,h1,h2,hk=>by
  simp at h1 h2;subst h1;subst h2
  show bindL kindOf ((p,w)::P.zip vs) m p=_
  unfold bindL
  rw[ZbV fun v hv=>(List.nodup_cons.mp nd).1 (List.of_mem_zip hv).1,if_pos hk]
  simp
 |p::P,w::vs,i+1,m,nd,h1,h2,hk=>by
  show bindL kindOf ((p,w)::P.zip vs) m x=_
  unfold bindL
  exact ZbW (i:=i) (List.nodup_cons.mp nd).2 (by simpa using h1) (by simpa using h2) hk
theorem ZbY{kindOf:Str->Option NameKind}{x:Str}{v:Value}:∀{P:List Str}{vs:List Value}{i:Nat}{m:Str->Option Value},P.Nodup->P[i]?=some x->vs[i]?=some v->kindOf x≠some .local->
  bindC kindOf (P.zip vs) m x=some v
 |[],_,_,_,_,h,_,_=>by simp at h
 |_::_,[],_,_,_,_,h,_=>by simp at h
 |p::P,w::vs,0,m,nd,h1,h2,hk=>by
  simp at h1 h2;subst h1;subst h2
  show bindC kindOf ((p,w)::P.zip vs) m p=_
  unfold bindC
  rw[ZbX fun v hv=>(List.nodup_cons.mp nd).1 (List.of_mem_zip hv).1,if_neg hk]
  simp
 |p::P,w::vs,i+1,m,nd,h1,h2,hk=>by
  show bindC kindOf ((p,w)::P.zip vs) m x=_
  unfold bindC
  exact ZbY (i:=i) (List.nodup_cons.mp nd).2 (by simpa using h1) (by simpa using h2) hk
def start(N:List Str)(vs:List V):St:=vs.map some++List.replicate (N.length-vs.length) none
def Yk(CX:CXT)(P:Program)(w:World)(K:PySem.W.Frag)(mg:Str->Option Value)(base:Heap)(N:List Str)(qual:Str)(scope:Scope)(f:Addr)(cd:Value)(A:Around)(outer:List Env)(s:Shared)(H:Hp)(E:XK):Cx where
 prog:=P
 w:=w
 K:=K
 mg:=mg
 base:=base
 A:=A.deeper (envOfC qual scope s.heap.objs.size f cd)
 N:=N
 s₀:=s
 H₀:=H
 env:=envOfC qual scope s.heap.objs.size f cd
 outer:=outer
 stack:=envOfC qual scope s.heap.objs.size f cd::outer
 ex:=[]
 calm:=true
 fn:=fun _=>true
 pn:=[]
 xe:=fun e s'=>wpAny (model P w) (A.deeper (envOfC qual scope s.heap.objs.size f cd)) (leaving (envOfC qual scope s.heap.objs.size f cd) e) (fun _ s''=>CX outer H s E e s'') (fun e' s''=>CX outer H s E e' s'') s'
theorem ZcY{sc:Scope}{n:Nat}{x:Str}(h:sc.names.lookup x=some .cell):∃c,(cellsFrom n sc.names []).lookup x=some c:=by
 have q:=PySem.W.cellsFrom_some sc.names n [] (.inl h)
 exact Option.isSome_iff_exists.mp q
theorem ZbN{CX:CXT}{P:Program}{w:World}{K:PySem.W.Frag}{mg:Str->Option Value}{base:Heap}{N ps:List Str}{qual:Str}{scope:Scope}{f:Addr}{cd:Value}{A:Around}{outer:List Env}{s s1:Shared}{H:Hp}{E:XK}{us:List Value}{vs:List V}
  (S:Zr N ps scope)(hd:A.handled=none)(e0:Env0 P w K mg base A outer s H)(hl:vs.length=ps.length)(r:Vals vs us)
  (x:InCallC s s.heap.objs.size (bindL (envOfC qual scope s.heap.objs.size f cd).kindOf (ps.zip us) fun _=>none) (cellsFrom (s.heap.objs.size+1) scope.names []) (bindC (envOfC qual scope s.heap.objs.size f cd).kindOf (ps.zip us) fun _=>none) s1):
  Inv (Yk CX P w K mg base N qual scope f cd A outer s H E) [] (start N vs) H s1:=by
 have hpl:ps.length<=N.length:=by have:=congrArg List.length S.pre;rw[List.length_take]at this;omega
 obtain⟨h1,tk,rfl,hk⟩:=x.done
 have noA:∀b:Addr,b ∉ (Yk CX P w K mg base N qual scope f cd A outer s H E).ex:=fun b z=>absurd (show b∈([]:List Addr)from z) (by simp)
 refine⟨⟨e0.mod,S.kind,rfl,rfl,Nat.le_refl _,fun y z c h1 h2=>?_,fun y hy=>?_,fun y c _ h=>?_,fun _=>hd,Around.frames_deeper e0.frames,.inr ⟨rfl,rfl⟩,fun b z=>absurd z (noA b),e0.bs,e0.bsz,fun b _ _=>noA b,fun b z=>absurd z (noA b),e0.funs,e0.frf⟩,
  rfl,e0.bare,Un.kept hk,⟨_,x.toInCall.ns,fun i y v h1 h2 h3=>?_⟩,fun y c h=>⟨_,x.cell y c h⟩,e0.hok.fresh (Nat.le_refl _),fun y c h=>?_,fun p hp=>absurd (show p∈([]:List (Addr×Obj))from hp) (by simp),e0.hok.kept hk,?_⟩
 ·exact name_of_addr x.apart (PySem.mem_of_lookup h1) (PySem.mem_of_lookup h2)
 ·have hy:scope.names.lookup y=some .cell\/scope.names.lookup y=some .free:=hy
  rcases hy with hy|hy
  ·exact ZcY hy
  ·exact absurd rfl (S.nofree _ (PySem.mem_of_lookup hy))
 ·exact Nat.le_of_lt (x.above y c (PySem.mem_of_lookup h))
 ·have hi:i<vs.length:=by
   unfold start at h2
   by_cases hi:i<vs.length
   ·exact hi
   ·rw[List.getElem?_append_right (by simpa using hi)]at h2
    rw[List.getElem?_replicate]at h2
    split at h2<;>cases h2
  have ha:vs[i]?=some v:=by
   unfold start at h2
   rw[List.getElem?_append_left (by simpa using hi),List.getElem?_map]at h2
   cases e:vs[i]? with
   |none=>rw[e]at h2;cases h2
   |some a=>rw[e]at h2;cases h2;rfl
  obtain⟨u,hu,rv⟩:=r.get ha
  have hp:ps[i]?=some y:=by
   rw[<-S.pre,List.getElem?_take_of_lt (by omega)];exact h1
  have ndP:ps.Nodup:=by rw[<-S.pre];exact S.nd.sublist (List.take_sublist _ _)
  refine⟨u,rv,?_⟩
  rcases S.par y (List.mem_of_getElem? hp)with k|k
  ·exact .inl ⟨k,ZbW ndP hp hu k⟩
  ·obtain⟨c,e⟩:=ZcY (n:=s.heap.objs.size+1) k
   refine .inr ⟨.inl k,c,e,?_⟩
   have q:=x.cell y c e
   rw[ZbY ndP hp hu (by show scope.names.lookup y≠_;rw[k];decide)]at q
   exact q
 ·exact e0.hok.fresh (Nat.le_of_lt (x.above y c (PySem.mem_of_lookup h)))
 ·unfold start
  show _=N.length
  rw[List.length_append,List.length_map,List.length_replicate]
  omega
theorem ZcR{CX:CXT}{P:Program}{w:World}{K:PySem.W.Frag}{mg:Str->Option Value}{base:Heap}{k:Nat}{f:Addr}{name qual:Str}{params:Arguments}{body:List Stmt}{scope:Scope}{dV kV doc pm cdv ct oc:Value}{an od:Option Addr}
  {osl:Array (Option Value)}{N ps:List Str}{sp:Sp}(lk:K.lookup f=some ⟨oc,od,.func (PySem.W.fnOf name qual params body scope dV kV doc pm an cdv ct),osl⟩)(hcd:PySem.W.codeIn K cdv qual=true)(S:Zr N ps scope)
  (len:∀vs H Q E,sp vs H Q E->vs.length=ps.length)
  (hbody:∀(A:Around)(outer:List Env)(s:Shared)(H:Hp)(vs:List V)(Q:VK)(E:XK),Room k (A.deeper (envOfC qual scope s.heap.objs.size f cdv))->sp vs H Q E->
   ∃t,PSs (Yk CX P w K mg base N qual scope f cdv A outer s H E) body t/\t {nx:=fun _ H'=>Q .non H',rt:=Q} (start N vs) H):
  FnOk P w K mg base CX (k+1) f (PySem.W.fnOf name qual params body scope dV kV doc pm an cdv ct) ps sp:=by
 refine⟨len,fun A outer s H args us vs Q E hr e0 hb r hsp=>?_⟩
 have hl:=len _ _ _ _ hsp
 have KX:K.In s.heap:=e0.mod.kin.keeps fun b o e=>(e0.bs b o e).1
 have lim:s.heap.NoLimit:=e0.mod.nolimit.keeps fun b o e=>(e0.bs b o e).1
 have hkind:∀y∈ps.zip us,scope.names.lookup y.1=some .local\/(scope.names.lookup y.1=some .cell/\((cellsFrom (s.heap.objs.size+1) scope.names []).lookup y.1).isSome=true):=fun⟨n,v⟩ hy=>by
  rcases S.par n (List.of_mem_zip hy).1 with q|q
  ·exact .inl q
  ·exact .inr ⟨q,PySem.W.cellsFrom_some _ _ _ (.inl q)⟩
 refine codeAny_call_function hr.depth (KX _ _ lk) rfl S.co S.gen rfl (PySem.W.codeRec_of KX hcd) (hb _ _ _ _ ?_)
 refine wpAny_newFunctionEnv_cells S.kind hkind fun env he s1 x=>?_
 subst he
 refine⟨lim.keeps x.toInCall.keep,codeAny_func ?_⟩
 obtain⟨t,ht,hq⟩:=hbody A outer s H vs Q E (hr.deeper _) hsp
 have I:Inv (Yk CX P w K mg base N qual scope f cdv A outer s H E) [] (start N vs) H s1:=ZbN S hr.hd e0 hl r x
 refine wpAny_mono (ht [] s1 (start N vs) H _ I hq) (fun fl s' hs=>?_) fun e s' hs=>hs
 have fin:∀{σ':St}{H':Hp}{v:V}{u:Value},Inv (Yk CX P w K mg base N qual scope f cdv A outer s H E) [] σ' H' s'->RelV v u->Q v H'->CE outer P w H s Q u s':=
  fun{σ' H' v u} J rv q=>⟨v,H',J.os,J.bare,J.base,J.hok,rv,q⟩
 cases fl with
 |ret u=>
  obtain⟨v,σ',H',J,rv,q⟩:=hs
  exact fin J rv q
 |next=>
  obtain⟨σ',H',J,q⟩:=hs
  exact fin (v:=V.non) (u:=Value.none) J rfl q
 |brk=>
  obtain⟨_,_,_,q⟩:=hs
  exact False.elim q
 |cont=>
  obtain⟨_,_,_,q⟩:=hs
  exact False.elim q
section
variable{X:Cx}{x:Str}{p pos:Pos}{e:Expr}{es:List Expr}{t:TA}{id T:String}{r:List V->Hp->VK->Prop}
def tCB(r:List V->Hp->VK->Prop)(t:TA):TE:=fun σ H Q=>t σ H fun vs H1=>r vs H1 Q
theorem Zn(hc:CallR X (.builtin id) r)(hg:Gl X x)(hm:X.mg x=none)(hv:bootBuiltins x=some (.builtin id))(ha:PA X (e::es) t)(hn:x≠"__name__":=by decide)(hdb:(x==("__debug__":Str))=false:=by decide)
  (he:starEach (e::es) X.env=(false,eval e X.env)::starEach es X.env:=by rfl)(hpl:(backTo pos (starEach es X.env)).any (·.1)=false:=by rfl):PE X (.Call (.Name x p) (e::es) [] pos) (tCB r t):=by
 intro pins s σ H Q I h
 refine wpAny_Call_Name_kw (Yy I hg hm hv ?_ hn hdb)
 exact PyProof.Rows.callWith_builtin1 (thn (ha pos pins s σ H _ I h) fun us s1⟨vs,H1,I1,r1,q1⟩=>hc pins s1 σ H1 vs us Q I1 r1 q1) he hpl
theorem Z1(hc:CallR X (.type T) r)(hg:Gl X x)(hm:X.mg x=none)(hv:bootBuiltins x=some (.type T))(ha:PA X (e::es) t)(hn:x≠"__name__":=by decide)(hdb:(x==("__debug__":Str))=false:=by decide)
  (he:starEach (e::es) X.env=(false,eval e X.env)::starEach es X.env:=by rfl)(hpl:(backTo pos (starEach es X.env)).any (·.1)=false:=by rfl):PE X (.Call (.Name x p) (e::es) [] pos) (tCB r t):=by
 intro pins s σ H Q I h
 refine wpAny_Call_Name_kw (Yy I hg hm hv ?_ hn hdb)
 exact PyProof.Rows.callWith_type1 (thn (ha pos pins s σ H _ I h) fun us s1⟨vs,H1,I1,r1,q1⟩=>hc pins s1 σ H1 vs us Q I1 r1 q1) he hpl
end
end L2
namespace HT
open PySem PyProof.Rows
section
open PySem.SeqAt
open PySem.AutoSeq1 (wpAny_loadPart')
open PySem.MeetsSeq PySem.MeetsSeq2 PySem.MeetsSeq3
end
section
variable{prog:Program}{w:World}{A:Around}{E:Value->Shared->Prop}{s:Shared}
theorem cat_tup{t b:Addr}{vs ws:List Value}{Q:Value->Shared->Prop}(ht:IsTup s.heap t vs.toArray)(hb:IsTup s.heap b ws.toArray)(hv:vs≠[])
  (h1:ws=[]->Q (.ref t) s)(h2:ws≠[]->Q (.ref s.heap.objs.size) {s with heap:=s.heap.push {cls:= .type "tuple",data:= .seq (vs++ws).toArray}})
  (hsz:vs.length+ws.length<=sizeLine):wpAny (model prog w) A (binaryOp .Add (.ref t) (.ref b)) Q E s:=by
 obtain⟨⟨cls,dd,data,sl⟩,ho,hc,n,hd⟩:=id ht
 obtain⟨⟨cls2,dd2,data2,sl2⟩,ho2,hc2,n2,hd2⟩:=id hb
 simp only at hc hd hc2 hd2
 subst hc hd hc2 hd2
 have e:vs.toArray++ws.toArray=(vs++ws).toArray:=by simp
 by_cases hw:ws=[]
 ·exact concat_meets ⟨_,ho,rfl⟩ ⟨_,ho2,rfl⟩ noFill_tuple_add seq_tuple_add PySem.F.slot_tuple_add PySem.F.entry_tuple_add (PySem.F.args_tuple_add_2 _ _)
   (tuple_addW1 t b vs.toArray ws.toArray n n2 dd dd2 sl sl2 (by simpa using hv) (by simp[hw])) ⟨ho,ho2,h1 hw⟩
 ·refine concat_meets ⟨_,ho,rfl⟩ ⟨_,ho2,rfl⟩ noFill_tuple_add seq_tuple_add PySem.F.slot_tuple_add PySem.F.entry_tuple_add (PySem.F.args_tuple_add_2 _ _)
   (tuple_addW2 t b vs.toArray ws.toArray n n2 dd dd2 sl sl2 (by simpa using hv) (by simpa using hw) (by rw[List.size_toArray,List.size_toArray];exact hsz)) ⟨ho,ho2,?_⟩
  rw[e]
  exact h2 hw
def sIx(n d:Nat):Option Int->Nat
 |none=>d
 |some v=>if v<0 then(v+(n:Int)).toNat else min v.toNat n
theorem sIx_none(n d:Nat):sIx n d none=d:=rfl
theorem sIx_nat(n d k:Nat):sIx n d (some (k:Int))=min k n:=by
 show(if(k:Int)<0 then((k:Int)+(n:Int)).toNat else min (k:Int).toNat n)=min k n
 rw[if_neg (by omega),Int.toNat_natCast]
theorem Zit(n d:Nat)(hd:d<=n)(o:Option Int):sIx n d o<=n:=by
 cases o with
 |none=>exact hd
 |some v=>
  show(if v<0 then(v+(n:Int)).toNat else min v.toNat n)<=n
  by_cases hv:v<0
  ·rw[if_pos hv];omega
  ·rw[if_neg hv];exact Nat.min_le_right _ _
theorem Zej(v:Int)(n d:Nat):(if v<0 then max (v+(n:Int)) 0 else min v (n:Int))=((sIx n d (some v):Nat):Int):=by
 show(if v<0 then max (v+(n:Int)) 0 else min v (n:Int))=(((if v<0 then(v+(n:Int)).toNat else min v.toNat n):Nat):Int)
 by_cases hv:v<0
 ·simp only[if_pos hv];omega
 ·simp only[if_neg hv];omega
theorem ZdG(lo hi:Option Int)(n:Nat):Builtin.Slice.sliceAdjust lo hi 1 (n:Int)=(((sIx n 0 lo:Nat):Int),((sIx n n hi:Nat):Int)):=by
 have h1:¬((1:Int)<0):=by omega
 unfold Builtin.Slice.sliceAdjust
 simp only[h1,if_false]
 refine Prod.ext ?_ ?_
 ·cases lo with
  |none=>rfl
  |some v=>exact Zej v n 0
 ·cases hi with
  |none=>rfl
  |some v=>exact Zej v n n
theorem Zdt(i j:Nat):Builtin.Slice.slicePlaces (i:Int) (j:Int) 1=j-i:=by
 unfold Builtin.Slice.slicePlaces
 have h1:(1:Int)>0:=by omega
 simp only[h1,if_true,Int.ediv_one]
 split<;>omega
theorem ZaO{v:Value}{o:Option Int}{Q:Option Int->Shared->Prop}(p:IsPart v o)(h:Q o s):wpAny (model prog w) A (Builtin.Slice.slicePartIndex v) Q E s:=by
 cases p with
 |none=>exact slicePart_none h
 |int i t=>exact slicePart_int h
theorem Zal{sl:Addr}{vl vu:Value}{lo hi:Option Int}{n:Nat}{Q:Int×Int×Nat->Shared->Prop}(hs:s.heap.IsSliceOf sl vl vu .none)(pl:IsPart vl lo)(pu:IsPart vu hi)
  (h:Q (((sIx n 0 lo:Nat):Int),1,sIx n n hi-sIx n 0 lo) s):wpAny (model prog w) A (Builtin.Slice.sliceApplied (.ref sl) (pure (n:Int))) Q E s:=by
 obtain⟨os,hos,hcs,hds⟩:=id hs
 unfold Builtin.Slice.sliceApplied Builtin.Slice.sliceFields
 refine wpAny_bind (wpAny_bind (wpAny_field hos hds (x:=vl) rfl (wpAny_bind (wpAny_field hos hds (x:=vu) rfl (wpAny_bind (wpAny_field hos hds (x:= .none) rfl (wpAny_pure ?_)))))))
 refine wpAny_bind (slicePart_none ?_)
 show wpAny _ _ (if((1:Int)==0)=true then _ else _) _ _ s
 rw[if_neg (by decide)]
 refine wpAny_bind (ZaO pl (wpAny_bind (ZaO pu (wpAny_bind (wpAny_pure ?_)))))
 show wpAny _ _ (match Builtin.Slice.sliceAdjust lo hi 1 (n:Int)with|(lo,hi)=>pure (lo,(1:Int),Builtin.Slice.slicePlaces lo hi 1)) _ _ s
 rw[ZdG lo hi n]
 show wpAny _ _ (pure (((sIx n 0 lo:Nat):Int),(1:Int),Builtin.Slice.slicePlaces ((sIx n 0 lo:Nat):Int) ((sIx n n hi:Nat):Int) 1)) _ _ s
 rw[Zdt]
 exact wpAny_pure h
theorem Zfv(xs:Array Value)(i k:Nat):((List.range k).filterMap fun(m:Nat)=>xs[((i:Int)+(m:Int)*1).toNat]?).toArray=((xs.toList.drop i).take k).toArray:=by
 have e:(fun(m:Nat)=>xs[((i:Int)+(m:Int)*1).toNat]?)=fun m=>xs[i+m]?:=by
  funext m
  have:((i:Int)+(m:Int)*1).toNat=i+m:=by omega
  rw[this]
 rw[e]
 have:=pick_run xs i k
 rw[List.filterMap_map]at this
 have e2:((fun x=>xs[x]?)∘fun x=>i+x)=fun m=>xs[i+m]?:=rfl
 rw[e2]at this
 rw[this]
theorem getItem_tuple_cut{t sl:Addr}{items:Array Value}{vl vu:Value}{lo hi:Option Int}{Q:Value->Shared->Prop}(ht:IsTup s.heap t items)(hs:s.heap.IsSliceOf sl vl vu .none)(pl:IsPart vl lo)(pu:IsPart vu hi)
  (hw:¬(sIx items.size 0 lo=0/\sIx items.size items.size hi=items.size))
  (h:Q (.ref s.heap.objs.size) {s with heap:=s.heap.push {cls:= .type "tuple",data:= .seq ((items.toList.drop (sIx items.size 0 lo)).take (sIx items.size items.size hi-sIx items.size 0 lo)).toArray}})
  (hsz:items.size<=sizeLine):wpAny (model prog w) A (getItem (.ref t) (.ref sl)) Q E s:=by
 have htake:sizeOk (.seq ((items.toList.drop (sIx items.size 0 lo)).take (sIx items.size items.size hi-sIx items.size 0 lo)).toArray):=by
  show((items.toList.drop (sIx items.size 0 lo)).take (sIx items.size items.size hi-sIx items.size 0 lo)).toArray.size<=sizeLine
  rw[List.size_toArray,List.length_take,List.length_drop,Array.length_toList]
  omega
 have hj:sIx items.size items.size hi<=items.size:=Zit _ _ (Nat.le_refl _) hi
 obtain⟨os,hos,hcs,hds⟩:=id hs
 have hTs:s.TypeIs (.ref sl) "slice":=⟨os,hos,hcs⟩
 unfold getItem
 try with_reducible refine wpAny_holding ?_
 first|refine wpAny_bind (wpAny_pure ?_)|skip
 refine wpAny_bind (wpAny_sequenceKey ht.typeIs (by decide) ?_)
 refine wpAny_bind (wpAny_callSpecial?_slot (name:=Str.ofString "__getitem__") ht.typeIs PyProof.Rows.slot_tuple_getitem
  (wpAny_call_entry PyProof.Rows.slot_tuple_getitem ht.typeIs entry_tuple_getitem ?_ (args_tuple_getitem _ _)))
 show wpAny _ _ (Builtin.Tuple.tupleItemsOf (.ref t)>>=_) _ _ s
 refine wpAny_bind (tupleItemsOf_ ht ?_)
 refine wpAny_bind (wpAny_typeOf hTs ?_)
 rw[if_pos (by decide)]
 refine wpAny_bind (Zal hs pl pu ?_)
 have hno:¬((((sIx items.size 0 lo:Nat):Int)==0&&(1:Int)==1&&(sIx items.size items.size hi-sIx items.size 0 lo)==items.size)=true):=by
  intro q
  rw[Bool.and_eq_true,Bool.and_eq_true]at q
  have q1:((sIx items.size 0 lo:Nat):Int)=0:=eq_of_beq q.1.1
  have q2:sIx items.size items.size hi-sIx items.size 0 lo=items.size:=eq_of_beq q.2
  exact hw ⟨by omega,by omega⟩
 show wpAny _ _ (if(((sIx items.size 0 lo:Nat):Int)==0&&(1:Int)==1&&(sIx items.size items.size hi-sIx items.size 0 lo)==items.size)=true then _ else _) _ _ s
 rw[if_neg hno,Zfv]
 first
  |exact wpAny_bind (m:=Builtin.Tuple.tupleExact _) (wpAny_newObj_type (wpAny_pure ⟨_,rfl,wpAny_pure h⟩) htake)
  |exact wpAny_bind (m:=Builtin.Tuple.tupleExact _) (wpAny_newObj_type (wpAny_bind (wpAny_pure (wpAny_pure ⟨_,rfl,wpAny_pure h⟩))) htake)
  |exact wpAny_bind (wpAny_bind (m:=Builtin.Tuple.tupleExact _) (wpAny_newObj_type (wpAny_pure (wpAny_pure ⟨_,rfl,wpAny_pure h⟩)) htake))
  |exact wpAny_bind (wpAny_bind (m:=Builtin.Tuple.tupleExact _) (wpAny_newObj_type (wpAny_pure ⟨_,rfl,wpAny_pure h⟩) htake))
end
end HT
namespace L2
open PySem PySem.Spec PyProof.Rows
abbrev TO:=St->Hp->(Option Int->Hp->Prop)->Prop
def PO(X:Cx)(e:Option Expr)(t:TO):Prop:=
 ∀(pins:List (Addr×Obj))(s:Shared)(σ:St)(H:Hp)(Q:Option Int->Hp->Prop),Inv X pins σ H s->t σ H Q->
  wpAny (model X.prog X.w) X.A (evalPart e X.env) (fun u s'=>∃o H',Inv X pins σ H' s'/\IsPart u o/\Q o H') X.xe s
def tNoPart:TO:=fun _ H Q=>Q none H
def Zjv(t:TE):TO:=fun σ H Q=>t σ H fun x H1=>∃i,x= .int i/\Q (some i) H1
theorem intsAre_of{ns:List Int}:∀{us:List Value},Vals (ns.map V.int) us->IntsAre us ns:=by
 induction ns with
 |nil=>intro us r;rw[List.map_nil]at r;cases r;exact .nil
 |cons n ns ih=>
  intro us r
  rw[List.map_cons]at r
  cases r with
  |cons r1 r2=>
   obtain⟨t,e⟩:=r1
   subst e
   exact .cons n t (ih r2)
section
variable{X:Cx}{e:Expr}{te:TE}{lo hi:Option Expr}{tl th:TO}{pos p2:Pos}
theorem Za7:PO X none tNoPart:=by
 intro pins s σ H Q I h
 rw[evalPart_none]
 exact wpAny_pure ⟨none,H,I,.none,h⟩
theorem Za6(h:PE X e te):PO X (some e) (Zjv te):=by
 intro pins s σ H Q I hw
 rw[evalPart_some]
 refine thn (h pins s σ H _ I hw) fun u s1 xq1=>?_
 obtain⟨x,H1,I1,r1,q1⟩:=xq1
 obtain⟨i,rfl,q⟩:=q1
 obtain⟨t,rfl⟩:=r1
 exact⟨some i,H1,I1,.int i t,q⟩
def SlR(X:Cx)(r:V->Option Int->Option Int->Hp->VK->Prop):Prop:=
 ∀(pins:List (Addr×Obj))(s:Shared)(σ:St)(H:Hp)(x:V)(v vl vu:Value)(lo hi:Option Int)(sl:Addr)(Q:VK),Inv X pins σ H s->RelV x v->s.heap.IsSliceOf sl vl vu .none->IsPart vl lo->IsPart vu hi->r x lo hi H Q->
  ∃T id,typeLookup (.type T) "__getitem__"=pure (some (.builtin id))/\s.TypeIs v T/\wpAny (model X.prog X.w) X.A (getItem v (.ref sl)) (EP X pins σ Q) X.xe s
def tSl(r:V->Option Int->Option Int->Hp->VK->Prop)(te:TE)(tl th:TO):TE:=fun σ H Q=>te σ H fun x H1=>tl σ H1 fun l H2=>th σ H2 fun u H3=>r x l u H3 Q
theorem JT{r:V->Option Int->Option Int->Hp->VK->Prop}(hr:SlR X r)(he:PE X e te)(hl:PO X lo tl)(hu:PO X hi th):PE X (.Subscript e (.Slice lo hi none p2) pos) (tSl r te tl th):=by
 intro pins s σ H Q I h
 refine Subscript_ (thn (he pins s σ H _ I h) fun v s1 xq1=>?_)
 obtain⟨x,H1,I1,r1,q1⟩:=xq1
 refine wpAny_Slice (thn (hl pins s1 σ H1 _ I1 q1) fun vl s2⟨l,H2,I2,pl,q2⟩=>thn (hu pins s2 σ H2 _ I2 q2) fun vu s3 xq1=>?_)
 obtain⟨u,H3,I3,pu,q3⟩:=xq1
 rw[evalPart_none]
 refine wpAny_pure ?_
 have I4:Inv X pins σ H3 {s3 with heap:=s3.heap.push {cls:= .type "slice",data:= .fields #[vl,vu,.none]}}:=I3.kept (t':=s3.toks) fun b ob q=>Heap.get?_push_of_some _ q
 obtain⟨T,id,hT,ht,hg⟩:=hr pins {s3 with heap:=s3.heap.push {cls:= .type "slice",data:= .fields #[vl,vu,.none]}} σ H3 x v vl vu l u s3.heap.objs.size Q I4 r1 (Heap.IsSliceOf.new ..) pl pu q3
 show wpAny (model X.prog X.w) X.A (subscriptTail e (.Slice lo hi none p2) v (.ref s3.heap.objs.size)) (EP X pins σ Q) X.xe {s3 with heap:=s3.heap.push {cls:= .type "slice",data:= .fields #[vl,vu,.none]}}
 exact tail_any (ops:=[.ref s3.heap.objs.size,v]) ht hT hg (by with_unfolding_all rfl)
def Y5(xs:List V)(lo hi:Option Int):List V:=(xs.drop (HT.sIx xs.length 0 lo)).take (HT.sIx xs.length xs.length hi-HT.sIx xs.length 0 lo)
theorem Y3(xs:List V)(lo hi:Option Int):(Y5 xs lo hi).length<=xs.length:=by
 unfold Y5
 rw[List.length_take,List.length_drop]
 omega
inductive ZlF(K:PySem.W.Frag)(x:V)(lo:Option Int)(hi:Option Int)(H:Hp)(Q:VK):Prop
 |mk (a xs:_) (_:x= .ref a) (_:SqT K H a xs) (_:¬(HT.sIx xs.length 0 lo=0/\HT.sIx xs.length xs.length hi=xs.length)) (_:∀p,H p=none->Q (.ref p) (upd H p (.tup (Y5 xs lo hi))))
theorem Zip:SlR X (ZlF X.K):=by
 intro pins s σ H x v vl vu lo hi sl Q I rx hs pl pu h
 obtain⟨a,xs,rfl,hx,hw,q⟩:=h
 cases rx
 obtain⟨its,r,ht,hz⟩:=I.tuple hx
 have hlen:its.toArray.size=xs.length:=by rw[List.size_toArray];exact r.length.symm
 refine⟨"tuple",_,PyProof.Rows.slot_tuple_getitem.lookup,ht.typeIs,?_⟩
 refine HT.getItem_tuple_cut ht hs pl pu (by rw[hlen];exact hw) ?_ (by rw[hlen];exact hz)
 rw[hlen]
 refine⟨.ref s.heap.objs.size,_,I.laid (t':=s.toks) (o:= .tup (Y5 xs lo hi)) (fun b ob q=>Heap.get?_push_of_some _ q) (Nat.le_refl _) ?_,rfl,q _ (I.hok.fresh (Nat.le_refl _))⟩
 exact⟨Nat.le_trans (Y3 xs lo hi) hz,_,(r.drop (HT.sIx xs.length 0 lo)).take (HT.sIx xs.length xs.length hi-HT.sIx xs.length 0 lo),IsTup.new _ _⟩
inductive ZjJ(K:PySem.W.Frag)(x:V)(y:V)(H:Hp)(Q:VK):Prop
 |mk (a b xs ys:_) (_:x= .ref a) (_:y= .ref b) (_:SqT K H a xs) (_:SqT K H b ys) (_:xs≠[]) (_:xs.length+ys.length<=sizeLine) (_:(ys=[]->Q (.ref a) H)) (_:(ys≠[]->∀p,H p=none->Q (.ref p) (upd H p (.tup (xs++ys)))))
theorem Vals.nil_iff{xs:List V}{us:List Value}(r:Vals xs us):us=[]↔xs=[]:=by
 cases r with
 |nil=>simp
 |cons _ _=>simp
theorem ZgT:OpR X (binaryOp .Add) (ZjJ X.K):=by
 intro pins s σ H x y v u Q I rx ry h
 obtain⟨a,b,xs,ys,rfl,rfl,ha,hb,hx,hz,q1,q2⟩:=h
 cases rx
 cases ry
 obtain⟨its,r1,p1,_⟩:=I.tuple ha
 obtain⟨its2,r2,p2,_⟩:=I.tuple hb
 refine HT.cat_tup p1 p2 (fun z=>hx (r1.nil_iff.mp z)) (fun z=>⟨.ref a,H,I,rfl,q1 (r2.nil_iff.mp z)⟩) (fun z=>?_) (by rw[<-r1.length,<-r2.length];exact hz)
 refine⟨.ref s.heap.objs.size,_,I.laid (t':=s.toks) (o:= .tup (xs++ys)) (fun b ob q=>Heap.get?_push_of_some _ q) (Nat.le_refl _) ?_,rfl,q2 (fun w=>z (r2.nil_iff.mpr w)) _ (I.hok.fresh (Nat.le_refl _))⟩
 exact⟨by rw[List.length_append];exact hz,_,r1.append r2,IsTup.new _ _⟩
end
def ixN(n:Nat)(i:Int):Option Nat:=if 0<=i then(if i<n then some i.toNat else none)else if-(n:Int)<=i then some (i+n).toNat else none
def atI{α:Type}(xs:List α)(i:Int):Option α:=(ixN xs.length i).bind fun j=>xs[j]?
theorem ZdV{n:Nat}{i:Int}{j:Nat}(h:ixN n i=some j):seqIndex? i n=some j/\j<n/\ -(n:Int)<=i/\i<n:=by
 unfold ixN at h
 by_cases h0:0<=i
 ·rw[if_pos h0]at h
  by_cases h1:i<n
  ·rw[if_pos h1]at h
   have e:i.toNat=j:=Option.some.inj h
   exact⟨by rw[seqIndex_of h0 h1,e],by omega,by omega,h1⟩
  ·rw[if_neg h1]at h;cases h
 ·rw[if_neg h0]at h
  by_cases h1: -(n:Int)<=i
  ·rw[if_pos h1]at h
   have e:(i+n).toNat=j:=Option.some.inj h
   exact⟨by rw[seqIndex_neg (by omega) h1,e],by omega,h1,by omega⟩
  ·rw[if_neg h1]at h;cases h
theorem Zel{α:Type}{xs:List α}{i:Int}{v:α}(h:atI xs i=some v):∃j,seqIndex? i xs.length=some j/\xs[j]?=some v/\j<xs.length/\ -(xs.length:Int)<=i/\i<xs.length:=by
 unfold atI at h
 cases e:ixN xs.length i with
 |none=>rw[e]at h;cases h
 |some j=>
  rw[e]at h
  obtain⟨h1,h2,h3,h4⟩:=ZdV e
  exact⟨j,h1,h,h2,h3,h4⟩
theorem Z3{α:Type}{xs:List α}{j:Nat}{v:α}(h:xs[j]?=some v):atI xs (j:Int)=some v:=by
 have hj:j<xs.length:=(List.getElem?_eq_some_iff.mp h).1
 have e:ixN xs.length (j:Int)=some j:=by
  unfold ixN
  rw[if_pos (by omega),if_pos (by omega)];simp
 unfold atI;rw[e];exact h
theorem Zbs{α:Type}(xs:List α)(v:α):atI (xs++[v]) (-1)=some v:=by
 have hl:(xs++[v]).length=xs.length+1:=by simp
 have e:ixN (xs++[v]).length (-1)=some xs.length:=by
  unfold ixN
  rw[hl,if_neg (by decide),if_pos (by omega)]
  congr 1
  omega
 unfold atI
 rw[e]
 show(xs++[v])[xs.length]?=some v
 simp
def Zh9(b:Expr):Prop:=∀o i,subscripted b false o i=operate [o,i] (getItem o i)
def IxR(X:Cx)(r:R2):Prop:=
 ∀(value slice:Expr)(pins:List (Addr×Obj))(s:Shared)(σ:St)(H:Hp)(x y:V)(v u:Value)(Q:VK),Inv X pins σ H s->RelV x v->RelV y u->r x y H Q->
  subscripted slice false v u=operate [v,u] (getItem v u)->wpAny (model X.prog X.w) X.A (subscriptTail value slice v u) (EP X pins σ Q) X.xe s
def MtR(X:Cx)(id:String)(r:V->List V->Hp->VK->Prop):Prop:=
 ∀(pins:List (Addr×Obj))(s:Shared)(σ:St)(H:Hp)(x:V)(xs:List V)(v:Value)(us:List Value)(Q:VK),Inv X pins σ H s->RelV x v->Vals xs us->r x xs H Q->
  wpAny (model X.prog X.w) X.A (call (.builtin id) (v::us)) (EP X pins σ Q) X.xe s
section
variable{X:Cx}{a b:Expr}{ta tb:TE}{pos:Pos}
theorem Zl{r:R2}(hr:IxR X r)(ha:PE X a ta)(hb:PE X b tb)(hs:Zh9 b):PE X (.Subscript a b pos) (tOp r ta tb):=by
 intro pins s σ H Q I h
 exact Subscript_ (Zjh ha hb I h fun v u s2 x y H2 I2 rx ry q=>hr a b pins s2 σ H2 x y v u Q I2 rx ry q (hs _ _))
inductive ZjI(K:PySem.W.Frag)(x:V)(y:V)(H:Hp)(Q:VK):Prop
 |mk (p xs i v:_) (_:x= .ref p) (_:y= .int i) (_:SqL K H p xs) (_:atI xs i=some v) (_:Q v H)
inductive Zfr(K:PySem.W.Frag)(x:V)(y:V)(H:Hp)(Q:VK):Prop
 |mk (p xs i v:_) (_:x= .ref p) (_:y= .int i) (_:SqT K H p xs) (_:atI xs i=some v) (_:Q v H)
theorem Z6:IxR X (ZjI X.K):=by
 intro value slice pins s σ H x y v u Q I rx ry h hs
 obtain⟨p,xs,i,z,rfl,rfl,hq,he,q⟩:=h
 cases rx
 obtain⟨t,rfl⟩:=ry
 obtain⟨its,r,pl,hz⟩:=I.list hq
 obtain⟨j,h1,h2,h3,h4,h5⟩:=Zel he
 obtain⟨w,ew,rw'⟩:=r.get h2
 have hl:=r.length
 have hn:=Zat
 have fin:EP X pins σ Q w s:=⟨z,H,I,rw',q⟩
 by_cases h0:0<=i
 ·have hj:i.toNat=j:=by
   rw[seqIndex_of h0 h5]at h1
   exact Option.some.inj h1
  exact item_listR pl.isList h0 (by omega) (by rw[hj];simpa using ew) fin hs
 ·have hj:(i+(its.toArray.size:Int)).toNat=j:=by
   rw[seqIndex_neg (by omega) h4]at h1
   rw[List.size_toArray,<-hl]
   exact Option.some.inj h1
  exact subscriptTail_builtinR (x:=w) pl.isList.typeIs slot_list_getitem.lookup
   (wpAny_getItem_list_neg (Q:=fun r s'=>r=w/\EP X pins σ Q r s') pl.isList (by omega) (by rw[List.size_toArray]<;>omega) (by omega) (by rw[hj];simpa using ew) ⟨rfl,fin⟩) hs
theorem Zo:IxR X (Zfr X.K):=by
 intro value slice pins s σ H x y v u Q I rx ry h hs
 obtain⟨p,xs,i,z,rfl,rfl,hq,he,q⟩:=h
 cases rx
 obtain⟨t,rfl⟩:=ry
 obtain⟨its,r,pl,hz⟩:=I.tuple hq
 obtain⟨j,h1,h2,h3,h4,h5⟩:=Zel he
 obtain⟨w,ew,rw'⟩:=r.get h2
 have hl:=r.length
 have hn:=Zat
 have fin:EP X pins σ Q w s:=⟨z,H,I,rw',q⟩
 exact subscriptTail_builtinR (x:=w) pl.typeIs slot_tuple_getitem.lookup
  (getItem_tuple (j:=j) (Q:=fun r s'=>r=w/\EP X pins σ Q r s') pl (by omega) (by omega) (by rw[List.size_toArray,<-hl];exact h1) (by simpa using ew) ⟨rfl,fin⟩) hs
theorem Zd4(its:List Value)(n j:Nat)(u:Value):Obj.mapSeq (·.setIfInBounds j u) {cls:= .type "list",data:= .seq its.toArray n}={cls:= .type "list",data:= .seq (its.set j u).toArray n}:=by
 simp[Obj.mapSeq]
theorem Inv.lst{pins:List (Addr×Obj)}{σ:St}{H:Hp}{s:Shared}{p:Addr}{xs:List V}(I:Inv X pins σ H s)(h:H p=some (.lst xs)):
  ∃(its:List Value)(n:Nat),Vals xs its/\s.heap.get? p=some {cls:= .type "list",data:= .seq its.toArray n}/\xs.length<=sizeLine:=by
 obtain⟨z,its,n,r,e⟩:=I.hok p _ h
 exact⟨its,n,r,e,z⟩
theorem Inv.lstUpd{pins:List (Addr×Obj)}{σ:St}{H:Hp}{s:Shared}{p:Addr}{xs ys:List V}{its its':List Value}{n n':Nat}{f:Obj->Obj}(I:Inv X pins σ H s)(h:H p=some (.lst xs))
  (ho:s.heap.get? p=some {cls:= .type "list",data:= .seq its.toArray n})(hf:f {cls:= .type "list",data:= .seq its.toArray n}={cls:= .type "list",data:= .seq its'.toArray n'})(r:Vals ys its')(hz:ys.length<=sizeLine)(t:Nat):
  Inv X pins σ (upd H p (.lst ys)) {s with heap:=s.heap.update p f,toks:=t}:=by
 have e:(s.heap.update p f).get? p=some {cls:= .type "list",data:= .seq its'.toArray n'}:=by
  rw[Heap.get?_update_self f ho (by rw[hf]<;>rfl),hf]
 refine I.write (x:=p) (e:=p) (by rw[h];trivial) (.inl rfl) (fun b u hb q=>(Heap.get?_update_other _ _ (Ne.symm hb)).trans q) ⟨_,e⟩ ?_
 exact⟨hz,its',n',r,e⟩
def rSetL:V->V->V->Hp->(Hp->Prop)->Prop:=fun o i v H Q=>∃p xs k j,o= .ref p/\i= .int k/\H p=some (.lst xs)/\ixN xs.length k=some j/\Q (upd H p (.lst (xs.set j v)))
theorem set_list:ZhA X rSetL:=by
 intro pins s σ H o i v ov iv u Q I ro ri rv h
 obtain⟨p,xs,k,j,rfl,rfl,hp,hj,q⟩:=h
 cases ro
 obtain⟨t,rfl⟩:=ri
 obtain⟨its,n,r,ho,hz⟩:=I.lst hp
 obtain⟨h1,h2,h3,h4⟩:=ZdV hj
 have hl:=r.length
 have hn:=Zat
 have I':Inv X pins σ (upd H p (.lst (xs.set j v))) {s with heap:=s.heap.update p (Obj.mapSeq (·.setIfInBounds j u))}:=
  I.lstUpd hp ho (Zd4 its n j u) (r.set rv j) (by rw[List.length_set];exact hz) s.toks
 by_cases h0:0<=k
 ·have hk:k.toNat=j:=by
   rw[seqIndex_of h0 h4]at h1
   exact Option.some.inj h1
  exact PySem.W.ki_setAt ho h0 (by omega) (by rw[List.size_toArray,<-hl];exact h4) (by rw[hk];exact⟨_,I',q⟩)
 ·have hk:(k+(its.toArray.size:Int)).toNat=j:=by
   rw[seqIndex_neg (by omega) h3]at h1
   rw[List.size_toArray,<-hl]
   exact Option.some.inj h1
  exact PySem.W.ki_setBack ho (by omega) (by rw[List.size_toArray,<-hl];exact h3) (by omega) (by rw[hk];exact⟨_,I',q⟩)
theorem Zcd(lo hi:Option Int)(n:Nat):(sliceBounds lo hi none n).1=((HT.sIx n 0 lo:Nat):Int)/\(sliceBounds lo hi none n).2.1=((HT.sIx n n hi:Nat):Int)/\(sliceBounds lo hi none n).2.2=1:=by
 refine⟨?_,?_,rfl⟩
 ·cases lo with
  |none=>simp[sliceBounds,HT.sIx]
  |some i=>
   simp only[sliceBounds,HT.sIx,Option.getD_none,show(1:Int)>0 by decide,if_true]
   by_cases h:i<0
   ·simp only[h,if_true]<;>omega
   ·simp only[h,if_false]<;>omega
 ·cases hi with
  |none=>simp[sliceBounds,HT.sIx]
  |some i=>
   simp only[sliceBounds,HT.sIx,Option.getD_none,show(1:Int)>0 by decide,if_true]
   by_cases h:i<0
   ·simp only[h,if_true]<;>omega
   ·simp only[h,if_false]<;>omega
theorem Zbw(its:List Value)(lo hi:Option Int):slicePick its.toArray lo hi none=((its.drop (HT.sIx its.length 0 lo)).take (HT.sIx its.length its.length hi-HT.sIx its.length 0 lo)).toArray:=by
 obtain⟨h1,h2,h3⟩:=Zcd lo hi its.toArray.size
 unfold slicePick
 rw[h1,h2,h3]
 simp only[sliceRange_one,pick_run,List.size_toArray]<;>rfl
inductive ZlG(K:PySem.W.Frag)(x:V)(lo:Option Int)(hi:Option Int)(H:Hp)(Q:VK):Prop
 |mk (a xs:_) (_:x= .ref a) (_:SqL K H a xs) (_:∀p,H p=none->Q (.ref p) (upd H p (.lst (Y5 xs lo hi))))
theorem Zce:SlR X (ZlG X.K):=by
 intro pins s σ H x v vl vu lo hi sl Q I rx hs pl pu h
 obtain⟨a,xs,rfl,hx,q⟩:=h
 cases rx
 obtain⟨its,r,ht,hz⟩:=I.list hx
 have hlen:=r.length
 refine⟨"list",_,slot_list_getitem.lookup,ht.isList.typeIs,?_⟩
 refine wpAny_getItem_list_slice ht.isList hs pl pu .none (by simp) ?_ (by rw[List.size_toArray]<;>omega)
 rw[Zbw,<-hlen]
 refine⟨.ref s.heap.objs.size,_,I.laid (t':=s.toks) (o:= .lst (Y5 xs lo hi)) (fun b ob q=>Heap.get?_push_of_some _ q) (Nat.le_refl _) ?_,rfl,q _ (I.hok.fresh (Nat.le_refl _))⟩
 exact⟨Nat.le_trans (Y3 xs lo hi) hz,_,0,(r.drop (HT.sIx xs.length 0 lo)).take (HT.sIx xs.length xs.length hi-HT.sIx xs.length 0 lo),Heap.get?_push_size _ rfl⟩
def Zaz:V->Bool
 | .non=>true
 | .bl _=>true
 | .int _=>true
 | .str _=>true
 |_=>false
def eqV:V->V->Bool
 | .non,.non=>true
 | .bl a,.bl b=>a==b
 | .bl a,.int b=>(if a then 1 else 0)==b
 | .int a,.bl b=>a==(if b then 1 else 0)
 | .int a,.int b=>a==b
 | .str a,.str b=>a==b
 |_,_=>false
theorem Zjd{A:Around}{s:Shared}{y x:V}{u v:Value}(ry:RelV y u)(rx:RelV x v)(fy:Zaz y=true)(fx:Zaz x=true):SeqAt.EqAt A s u v (eqV y x):=by
 cases y with
 |non=>
  cases ry
  cases x with
  |non=>cases rx;exact SeqAt.EqAt.same _
  |bl b=>cases rx;exact SeqAt.EqAt.none_bool b
  |int b=>obtain⟨t,rfl⟩:=rx;exact SeqAt.EqAt.none_int b t
  |str b=>obtain⟨t,rfl⟩:=rx;exact SeqAt.EqAt.none_str b t
  |_=>exact absurd (show false=true from fx) Bool.false_ne_true
 |bl a=>
  cases ry
  cases x with
  |non=>cases rx;exact SeqAt.EqAt.bool_none a
  |bl b=>cases rx;exact SeqAt.EqAt.bool_bool a b
  |int b=>obtain⟨t,rfl⟩:=rx;exact SeqAt.EqAt.bool_int a b t
  |str b=>obtain⟨t,rfl⟩:=rx;exact SeqAt.EqAt.bool_str a b t
  |_=>exact absurd (show false=true from fx) Bool.false_ne_true
 |int a=>
  obtain⟨t',rfl⟩:=ry
  cases x with
  |non=>cases rx;exact SeqAt.EqAt.int_none a t'
  |bl b=>cases rx;exact SeqAt.EqAt.int_bool a t' b
  |int b=>obtain⟨t,rfl⟩:=rx;exact SeqAt.EqAt.int_int a t' b t
  |str b=>obtain⟨t,rfl⟩:=rx;exact SeqAt.EqAt.int_str a t' b t
  |_=>exact absurd (show false=true from fx) Bool.false_ne_true
 |str a=>
  obtain⟨t',rfl⟩:=ry
  cases x with
  |non=>cases rx;exact SeqAt.EqAt.str_none a t'
  |bl b=>cases rx;exact SeqAt.EqAt.str_bool a t' b
  |int b=>obtain⟨t,rfl⟩:=rx;exact SeqAt.EqAt.str_int a t' b t
  |str b=>obtain⟨t,rfl⟩:=rx;exact SeqAt.EqAt.str_str a t' b t
  |_=>exact absurd (show false=true from fx) Bool.false_ne_true
 |_=>exact absurd (show false=true from fy) Bool.false_ne_true
def eqU(x:V)(u:Value):Bool:=match u with
 | .none=>eqV .non x
 | .bool b=>eqV (.bl b) x
 | .int i _=>eqV (.int i) x
 | .str z _=>eqV (.str z) x
 |_=>false
theorem Zgb{x y:V}{u:Value}(r:RelV y u)(f:Zaz y=true):eqU x u=eqV y x:=by
 cases y with
 |non=>cases r;rfl
 |bl b=>cases r;rfl
 |int i=>obtain⟨t,rfl⟩:=r;rfl
 |str z=>obtain⟨t,rfl⟩:=r;rfl
 |_=>exact absurd (show false=true from f) Bool.false_ne_true
theorem Zct{x:V}:∀{xs:List V}{us:List Value},Vals xs us->xs.all Zaz=true->us.any (eqU x)=xs.any fun y=>eqV y x
 |_,_,.nil,_=>rfl
 |y::xs,u::us,.cons r t,f=>by
  rw[List.all_cons,Bool.and_eq_true]at f
  rw[List.any_cons,List.any_cons,Zgb r f.1,Zct t f.2]
theorem Zbc{A:Around}{s:Shared}{x:V}{v:Value}(rx:RelV x v)(fx:Zaz x=true):∀{xs:List V}{us:List Value},Vals xs us->xs.all Zaz=true->∀u∈us,SeqAt.EqAt A s u v (eqU x u)
 |_,_,.nil,_=>fun u hu=>by cases hu
 |y::xs,u::us,.cons r t,f=>fun u' hu=>by
  rw[List.all_cons,Bool.and_eq_true]at f
  rcases List.mem_cons.mp hu with rfl|hu
  ·rw[Zgb r f.1];exact Zjd r rx f.1 fx
  ·exact Zbc rx fx t f.2 u' hu
def inV(x:V)(xs:List V):Bool:=xs.any fun y=>eqV y x
inductive rIn(K:PySem.W.Frag)(neg:Bool)(x:V)(y:V)(H:Hp)(Q:VK):Prop
 |mk (p xs:_) (_:y= .ref p) (_:(SqL K H p xs\/SqT K H p xs)) (_:Zaz x=true) (_:xs.all Zaz=true) (_:Q (.bl (if neg then !inV x xs else inV x xs)) H)
theorem ZbE:OpR X (compareOp .In) (rIn X.K false):=by
 intro pins s σ H x y v u Q I rx ry h
 obtain⟨p,xs,rfl,hq,fx,fs,q⟩:=h
 cases ry
 rcases hq with hq|hq
 ·obtain⟨its,r,pl,hz⟩:=I.list hq
  refine SeqAt.in_listAt (eqU x) pl.isList (fun w hw=>Zbc rx fx r fs w (by simpa using hw)) ⟨.bl _,H,I,rfl,?_⟩
  rw[show its.toArray.any (eqU x)=its.any (eqU x) by simp,Zct r fs]
  exact q
 ·obtain⟨its,r,pl,hz⟩:=I.tuple hq
  refine SeqAt.in_tupleAt (eqU x) pl (fun w hw=>Zbc rx fx r fs w (by simpa using hw)) ⟨.bl _,H,I,rfl,?_⟩
  rw[show its.toArray.any (eqU x)=its.any (eqU x) by simp,Zct r fs]
  exact q
theorem Zx:CallR X (.builtin "len") (fun xs H Q=>∃p ys,xs=[.ref p]/\(SqL X.K H p ys\/SqT X.K H p ys)/\Q (.int ys.length) H):=by
 intro pins s σ H xs us Q I r h
 obtain⟨p,ys,rfl,hq,q⟩:=h
 obtain⟨u,rfl,rx⟩:=vals1 r
 cases rx
 have hn:=Zat
 rcases hq with hq|hq
 ·obtain⟨its,r',pl,hz⟩:=I.list hq
  have hlen:=r'.length
  exact Calls.call_len_list pl.isList (by simp only[List.size_toArray]<;>omega) ⟨.int ys.length,H,I.tok _,⟨s.toks+1,by rw[List.size_toArray,hlen]⟩,q⟩
 ·obtain⟨its,r',pl,hz⟩:=I.tuple hq
  have hlen:=r'.length
  exact len_tuple pl (by simp only[List.size_toArray]<;>omega) ⟨.int ys.length,H,I.tok _,⟨s.toks+1,by rw[List.size_toArray,hlen]⟩,q⟩
theorem Zac:CallR X (.type "list") (fun xs H Q=>∃p ys,xs=[.ref p]/\(SqL X.K H p ys\/SqT X.K H p ys)/\∀l,H l=none->Q (.ref l) (upd H l (.lst ys))):=by
 intro pins s σ H xs us Q I r h
 obtain⟨p,ys,rfl,hq,q⟩:=h
 obtain⟨u,rfl,rx⟩:=vals1 r
 cases rx
 have fin:∀(its:List Value),Vals ys its->ys.length<=sizeLine->∀(h':Heap)(c':Nat),(∀b o',s.heap.get? b=some o'->h'.get? b=some o')->
   h'.get? s.heap.objs.size=some {cls:= .type "list",dict:=none,data:= .seq its.toArray c',slots:=#[]}->EP X pins σ Q (.ref s.heap.objs.size) {s with heap:=h'}:=fun its r' hz h' c' kp e=>
  ⟨.ref s.heap.objs.size,_,I.laid (t':=s.toks) kp (Nat.le_refl _) (show ObjOk X.prog X.w _ h' _ (.lst ys)from⟨hz,its,c',r',e⟩),rfl,q _ (I.hok.fresh (Nat.le_refl _))⟩
 rcases hq with hq|hq
 ·obtain⟨its,r',pl,hz⟩:=I.list hq
  have hlen:=r'.length
  obtain⟨o,ho,hc,n,hd⟩:=pl.isList
  exact call_list_seq p (.inl rfl) ho hc hd (fun h' c' kp e=>fin its r' hz h' c' kp e) (by simp only[List.size_toArray]<;>omega)
 ·obtain⟨its,r',pl,hz⟩:=I.tuple hq
  have hlen:=r'.length
  obtain⟨o,ho,hc,n,hd⟩:=pl
  exact call_list_seq p (.inr rfl) ho hc hd (fun h' c' kp e=>fin its r' hz h' c' kp e) (by simp only[List.size_toArray]<;>omega)
theorem call_tuple_of:CallR X (.type "tuple") (fun xs H Q=>∃p ys,xs=[.ref p]/\((SqL X.K H p ys/\∀l,H l=none->Q (.ref l) (upd H l (.tup ys)))\/(SqT X.K H p ys/\Q (.ref p) H))):=by
 intro pins s σ H xs us Q I r h
 obtain⟨p,ys,rfl,h⟩:=h
 obtain⟨u,rfl,rx⟩:=vals1 r
 cases rx
 rcases h with⟨hq,q⟩|⟨hq,q⟩
 ·obtain⟨its,r',pl,hz⟩:=I.list hq
  have hlen:=r'.length
  refine call_tuple_list pl.isList (fun h' kp=>?_) (by simp only[List.size_toArray]<;>omega)
  have I1:Inv X pins σ H {s with heap:=h'}:=I.kept (t':=s.toks) kp
  have I2:Inv X pins σ (upd H h'.objs.size (.tup ys)) {s with heap:=h'.push {cls:= .type "tuple",data:= .seq its.toArray}}:=
   I1.laid (t':=s.toks) (fun b o e=>Heap.get?_push_of_some _ e) (Nat.le_refl _) (show ObjOk X.prog X.w _ _ _ (.tup ys)from⟨hz,its,r',IsTup.new _ _⟩)
  exact⟨.ref h'.objs.size,_,I2,rfl,q _ (I1.hok.fresh (Nat.le_refl _))⟩
 ·obtain⟨its,r',pl,hz⟩:=I.tuple hq
  exact call_tuple_same pl ⟨.ref p,H,I,rfl,q⟩
def tyV(K:PySem.W.Frag)(T:String)(x:V)(H:Hp):Prop:=match x with
 | .str _=>T="str"
 | .int _=>T="int"
 | .ref p=>(T="list"/\∃xs,SqL K H p xs)\/(T="tuple"/\∃o,K.lookup p=some o/\o.cls= .type "tuple"/\o.dict=none)\/
   (T="dict"/\((∃kvs,H p=some (.dK kvs))\/∃kvs,H p=some (.dT kvs)))\/(T="set"/\∃S n,H p=some (.set S n))
 |_=>False
theorem Zfa{pins:List (Addr×Obj)}{σ:St}{H:Hp}{s:Shared}{T:String}{x:V}{v:Value}(I:Inv X pins σ H s)(r:RelV x v)(ty:tyV X.K T x H):
  s.TypeIs v T/\∀a,v= .ref a->∃ob,s.heap.get? a=some ob/\ob.dict=none:=by
 cases x with
 |str z=>
  obtain⟨t,rfl⟩:=r
  cases(show T="str" from ty)
  exact⟨typeIs_str s z t,fun _ e=>nomatch e⟩
 |int i=>
  obtain⟨t,rfl⟩:=r
  cases(show T="int" from ty)
  exact⟨typeIs_int s i t,fun _ e=>nomatch e⟩
 |ref p=>
  cases r
  rcases ty with⟨rfl,xs,hq⟩|⟨rfl,o,hk,hc,hd⟩|⟨rfl,hk⟩|⟨rfl,S,n,hk⟩
  ·obtain⟨its,_,pl,_⟩:=I.list hq
   refine⟨pl.isList.typeIs,fun a e=>?_⟩
   cases e
   obtain⟨o,n,e,c,hd,_⟩:=pl
   exact⟨o,e,hd⟩
  ·refine⟨⟨o,I.kIn p o hk,hc⟩,fun a e=>?_⟩
   cases e
   exact⟨o,I.kIn _ o hk,hd⟩
  ·have z:∃o,s.heap.get? p=some o/\o.ExactDict:=by
    rcases hk with⟨kvs,hk⟩|⟨kvs,hk⟩
    ·obtain⟨_,_,_,_,o,_,_,e,ex,_⟩:=I.hok p _ hk
     exact⟨o,e,ex⟩
    ·obtain⟨_,_,_,_,o,_,_,e,ex,_⟩:=I.hok p _ hk
     exact⟨o,e,ex⟩
   obtain⟨o,e,ex⟩:=z
   refine⟨⟨o,e,ex.1⟩,fun a e2=>?_⟩
   cases e2
   exact⟨o,e,ex.2.1⟩
  ·obtain⟨o,_,_,_,e,ex,_⟩:=I.hok p _ hk
   refine⟨⟨o,e,ex.1⟩,fun a e2=>?_⟩
   cases e2
   exact⟨o,e,ex.2.1⟩
 |_=>exact False.elim ty
def Zlw(K:PySem.W.Frag)(T:String)(r:V->List V->Hp->VK->Prop)(to:TE):TE:=fun σ H Q=>to σ H fun x H1=>tyV K T x H1/\r x [] H1 Q
def tBM(K:PySem.W.Frag)(T:String)(r:V->List V->Hp->VK->Prop)(to:TE)(t:TA):TE:=fun σ H Q=>to σ H fun x H1=>tyV K T x H1/\t σ H1 fun xs H2=>r x xs H2 Q
variable{o e:Expr}{es:List Expr}{to:TE}{t:TA}{name:Str}{apos cpos:Pos}{T id:String}{r:V->List V->Hp->VK->Prop}
theorem Zi9(pa:PlainAttrs T)(slot:Slot T name id)(hty:typeOf (.builtin id)=pure (.type "method_descriptor"))(hm:MtR X id r)(ho:PE X o to)
  (hbase:attributeBase o name X.env (eval o X.env)=eval o X.env:=by rfl)(hline:(apos.endLine==cpos.line)=true:=by rfl):PE X (.Call (.Attribute o name apos) [] [] cpos) (Zlw X.K T r to):=by
 intro pins s σ H Q I h
 refine wpAny_Call_method0_late hbase hline (thn (ho pins s σ H _ I h) fun v s1 xq1=>?_)
 obtain⟨x,H1,I1,r1,ty,q1⟩:=xq1
 obtain⟨h1,h2⟩:=Zfa I1 r1 ty
 exact⟨T,id,pa,slot,hty,h1,h2,Calls.callWith_builtin rfl (PySem.evalArgs_none (hm pins s1 σ H1 x [] v [] Q I1 r1 .nil q1))⟩
theorem YT(pa:PlainAttrs T)(slot:Slot T name id)(hty:typeOf (.builtin id)=pure (.type "method_descriptor"))(hm:MtR X id r)(ho:PE X o to)(ha:PA X (e::es) t)
  (hbase:attributeBase o name X.env (eval o X.env)=eval o X.env:=by rfl)
  (hfew:((backTo cpos (starEach (e::es) X.env)).all (fun x=> !x.1)&&(backToKw cpos (keywordEach [] X.env)).all (fun x=>x.1.isSome)
   &&decide ((e::es).length+([]:List Keyword).length+(if([]:List Keyword).isEmpty then 0 else 1)<30))=true:=by rfl)
  (hline:(apos.endLine==cpos.line)=true:=by rfl) (hs:starEach (e::es) X.env=(false,eval e X.env)::starEach es X.env:=by rfl) (hplain:(backTo cpos (starEach es X.env)).any (·.1)=false:=by rfl):
  PE X (.Call (.Attribute o name apos) (e::es) [] cpos) (tBM X.K T r to t):=by
 intro pins s σ H Q I h
 refine wpAny_Call_method_late hbase hfew hline rfl (thn (ho pins s σ H _ I h) fun v s1 xq1=>?_)
 obtain⟨x,H1,I1,r1,ty,q1⟩:=xq1
 obtain⟨h1,h2⟩:=Zfa I1 r1 ty
 refine⟨T,id,pa,slot,hty,h1,h2,?_⟩
 have hA:=ha cpos pins s1 σ H1 _ I1 q1
 rw[hs]at hA⊢
 refine Calls.callWith_builtin (by show(false||(backTo cpos (starEach es X.env)).any (·.1))=false;rw[hplain]<;>rfl) (Calls.evalArgs_plain ?_)
 exact thn hA fun us s2⟨vs,H2,I2,r2,q2⟩=>hm pins s2 σ H2 x vs v us Q I2 r1 r2 q2
end
def MtM(X:Cx)(id:String)(r:V->List V->Hp->VK->Prop):Prop:=
 ∀(pins:List (Addr×Obj))(s:Shared)(σ:St)(H:Hp)(x:V)(xs:List V)(v:Value)(us:List Value)(Q:VK),Inv X pins σ H s->RelV x v->Vals xs us->r x xs H Q->
  wpAny (model X.prog X.w) X.A (call (.builtin id) (v::us)) (EP X pins σ Q) X.xe s
theorem Vals.one:∀{x:V}{us:List Value},Vals [x] us->∃u,us=[u]/\RelV x u
 |_,_,.cons r .nil=>⟨_,rfl,r⟩
theorem Vals.two:∀{x y:V}{us:List Value},Vals [x,y] us->∃u v,us=[u,v]/\RelV x u/\RelV y v
 |_,_,_,.cons r (.cons q .nil)=>⟨_,_,rfl,r,q⟩
theorem Vals.zero:∀{us:List Value},Vals [] us->us=[]
 |_,.nil=>rfl
theorem Vals.dropLast{xs:List V}{us:List Value}(h:Vals xs us):Vals xs.dropLast us.dropLast:=by
 induction h with
 |nil=>exact .nil
 |cons r t ih=>
  cases t with
  |nil=>exact .nil
  |cons q t'=>exact .cons r ih
theorem Vals.eraseIdx:∀{xs:List V}{us:List Value}(i:Nat),Vals xs us->Vals (xs.eraseIdx i) (us.eraseIdx i)
 |_,_,_,.nil=> .nil
 |_,_,0,.cons _ t=>t
 |_,_,i+1,.cons r t=> .cons r (Vals.eraseIdx i t)
theorem Vals.reverse{xs:List V}{us:List Value}(h:Vals xs us):Vals xs.reverse us.reverse:=by
 induction h with
 |nil=>exact .nil
 |cons r t ih=>rw[List.reverse_cons,List.reverse_cons];exact Vals.append ih (.cons r .nil)
theorem Vals.rep{xs:List V}{us:List Value}(h:Vals xs us):∀k:Nat,Vals (List.replicate k xs).flatten (List.replicate k us).flatten
 |0=> .nil
 |k+1=>by
  rw[List.replicate_succ,List.replicate_succ,List.flatten_cons,List.flatten_cons]
  exact Vals.append h (Vals.rep h k)
theorem ZdA{α:Type}(l:List α):l.eraseIdx (l.length-1)=l.dropLast:=by
 induction l with
 |nil=>rfl
 |cons a r ih=>
  cases r with
  |nil=>rfl
  |cons b r=>
   have e:(a::b::r).length-1=((b::r).length-1)+1:=by
    have h1:(a::b::r).length=r.length+2:=rfl
    have h2:(b::r).length=r.length+1:=rfl
    omega
   rw[e,List.eraseIdx_cons_succ,ih]
   all_goals rfl
theorem foldl_rep(its:List Value):∀(k:Nat)(acc:List Value),
  List.foldl (fun x1 x2=>x1++x2) acc.toArray (List.replicate k its.toArray)=(acc++(List.replicate k its).flatten).toArray
 |0,acc=>by simp
 |k+1,acc=>by
  have e:acc.toArray++its.toArray=(acc++its).toArray:=by simp
  have e2:(acc++its)++(List.replicate k its).flatten=acc++(List.replicate (k+1) its).flatten:=by
   rw[List.replicate_succ,List.flatten_cons,List.append_assoc]
  rw[<-e2,<-foldl_rep its k (acc++its),<-e,List.replicate_succ,List.foldl_cons]
section
variable{X:Cx}{pins:List (Addr×Obj)}{σ:St}{H:Hp}{s:Shared}{l b:Addr}{xs ys zs:List V}
theorem Inv.lset{its its':List Value}{n:Nat}{f:Array Value->Array Value}{t':Nat}(I:Inv X pins σ H s)(hH:H l=some (.lst xs))
  (e:s.heap.get? l=some {cls:= .type "list",data:= .seq its.toArray n})(hf:f its.toArray=its'.toArray)(hv:Vals ys its')(hz:ys.length<=sizeLine):
  Inv X pins σ (upd H l (.lst ys)) {s with heap:=s.heap.update l (Obj.mapSeq f),toks:=t'}:=by
 have q:=PySem.IsL.update e f
 rw[hf]at q
 refine I.write (x:=l) (e:=l) (by rw[hH];exact trivial) (.inl rfl) (fun b' u hb hu=>(Heap.get?_update_other s.heap (Obj.mapSeq f) (Ne.symm hb)).trans hu) ⟨_,q⟩ ?_
 exact⟨hz,its',_,hv,q⟩
theorem Inv.lnew{its:List Value}{t':Nat}(I:Inv X pins σ H s)(hv:Vals ys its)(hz:ys.length<=sizeLine):
  Inv X pins σ (upd H s.heap.objs.size (.lst ys)) {s with heap:=s.heap.push {cls:= .type "list",data:= .seq its.toArray},toks:=t'}:=
 I.laid (fun _ _ q=>Heap.get?_push_of_some _ q) (Nat.le_refl _) ⟨hz,its,0,hv,Heap.get?_push_size _ rfl⟩
theorem Inv.fresh(I:Inv X pins σ H s):H s.heap.objs.size=none:=I.hok.fresh (Nat.le_refl _)
theorem Inv.lstM(I:Inv X pins σ H s)(hH:H l=some (.lst xs)):xs.length<=sizeLine/\∃(its:List Value)(n:Nat),Vals xs its/\xs.length=its.length/\s.heap.get? l=some {cls:= .type "list",data:= .seq its.toArray n}:=by
 obtain⟨z,its,n,r,e⟩:=I.hok l _ hH
 exact⟨z,its,n,r,r.length,e⟩
theorem ZcE{n:Nat}(h:n<=sizeLine):Builtin.List.listTooLong n=false:=by
 unfold Builtin.List.listTooLong
 exact decide_eq_false (by omega)
end
section
variable{X:Cx}
inductive rAppend(x:V)(vs:List V)(H:Hp)(Q:VK):Prop
 |mk (l xs y:_) (_:x= .ref l) (_:vs=[y]) (_:H l=some (.lst xs)) (_:xs.length<sizeLine) (_:Q .non (upd H l (.lst (xs++[y]))))
theorem ZX:MtM X "list.append" rAppend:=by
 intro pins s σ H x vs v us Q I rx rv h
 obtain⟨l,xs,y,rfl,rfl,hH,hz,q⟩:=h
 cases rx
 obtain⟨u,rfl,ru⟩:=rv.one
 obtain⟨z,its,n,r,hl,e⟩:=I.lstM hH
 refine call_meets F.slot_list_append ⟨_,e,rfl⟩ F.entry_list_append (F.args_list_append_2 _ _) (PySem.list_append l its.toArray n u (by rw[List.size_toArray];omega)) ⟨e,?_⟩
 refine⟨.non,_,I.lset (its':=its++[u]) hH e (by simp) (r.append (.cons ru .nil)) ?_,rfl,q⟩
 rw[List.length_append,List.length_singleton]
 omega
inductive rExtend(x:V)(vs:List V)(H:Hp)(Q:VK):Prop
 |mk (l b xs zs:_) (_:x= .ref l) (_:vs=[.ref b]) (_:H l=some (.lst xs)) (_:H b=some (.lst zs)) (_:xs.length+zs.length<=sizeLine) (_:Q .non (upd H l (.lst (xs++zs))))
theorem Zjo:MtM X "list.extend" rExtend:=by
 intro pins s σ H x vs v us Q I rx rv h
 obtain⟨l,b,xs,zs,rfl,rfl,hH,hB,hz,q⟩:=h
 cases rx
 obtain⟨u,rfl,ru⟩:=rv.one
 cases ru
 obtain⟨z,its,n,r,hl,e⟩:=I.lstM hH
 obtain⟨z2,its2,n2,r2,hl2,e2⟩:=I.lstM hB
 have hsz:its.toArray.size+its2.toArray.size<=sizeLine:=by rw[List.size_toArray,List.size_toArray];omega
 have hlong:¬(!its.toArray.isEmpty&&Builtin.List.listTooLong (its.toArray.size+its2.toArray.size))=true:=by
  rw[ZcE hsz,Bool.and_false]
  exact Bool.false_ne_true
 refine call_meets F.slot_list_extend ⟨_,e,rfl⟩ F.entry_list_extend (F.args_list_extend_2 _ _)
  (AutoSeq1.list_extend_list_list_0 l its.toArray n b its2.toArray n2 hlong (by rw[List.size_toArray];omega) (by omega)) ⟨e,e2,?_⟩
 refine⟨.non,_,I.lset (its':=its++its2) hH e (by simp) (r.append r2) ?_,rfl,q⟩
 rw[List.length_append]
 omega
inductive rPop(x:V)(vs:List V)(H:Hp)(Q:VK):Prop
 |mk (l xs y:_) (_:x= .ref l) (_:vs=[]) (_:H l=some (.lst xs)) (_:xs[xs.length-1]?=some y) (_:Q y (upd H l (.lst xs.dropLast)))
theorem ZiR:MtM X "list.pop" rPop:=by
 intro pins s σ H x vs v us Q I rx rv h
 obtain⟨l,xs,y,rfl,rfl,hH,hy,q⟩:=h
 cases rx
 have hus:=rv.zero
 subst hus
 obtain⟨z,its,n,r,hl,e⟩:=I.lstM hH
 obtain⟨u,hu,ru⟩:=r.get hy
 have hy':its.toArray[its.toArray.size-1]?=some u:=by
  show its.toArray[its.length-1]?=some u
  rw[<-Array.getElem?_toList,<-hl]
  exact hu
 refine call_meets F.slot_list_pop ⟨_,e,rfl⟩ F.entry_list_pop (F.args_list_pop_1 _) (MeetsSeq.list_pop_last l its.toArray n u hy' (by rw[List.size_toArray];omega)) ⟨e,?_⟩
 refine⟨y,_,I.lset (its':=its.dropLast) hH e ?_ r.dropLast ?_,ru,q⟩
 ·show its.toArray.eraseIdxIfInBounds (its.toArray.size-1)=its.dropLast.toArray
  rw[List.size_toArray,List.eraseIdxIfInBounds_toArray,ZdA]
 ·rw[List.length_dropLast]
  omega
inductive rCat(x:V)(y:V)(H:Hp)(Q:VK):Prop
 |mk (l b xs zs:_) (_:x= .ref l) (_:y= .ref b) (_:H l=some (.lst xs)) (_:H b=some (.lst zs)) (_:xs.length+zs.length<=sizeLine) (_:∀p,H p=none->Q (.ref p) (upd H p (.lst (xs++zs))))
theorem op_cat:OpR X (binaryOp .Add) rCat:=by
 intro pins s σ H x y v u Q I rx ry h
 obtain⟨l,b,xs,zs,rfl,rfl,hH,hB,hz,q⟩:=h
 cases rx
 cases ry
 obtain⟨z,its,n,r,hl,e⟩:=I.lstM hH
 obtain⟨z2,its2,n2,r2,hl2,e2⟩:=I.lstM hB
 refine PySem.P.add_list e e2 ?_ (by rw[List.size_toArray,List.size_toArray];omega)
 have ea:its.toArray++its2.toArray=(its++its2).toArray:=by simp
 rw[ea]
 exact⟨.ref _,_,I.lnew (t':=s.toks) (r.append r2) (by rw[List.length_append];omega),rfl,q _ I.fresh⟩
inductive rRep(x:V)(y:V)(H:Hp)(Q:VK):Prop
 |mk (l k xs:_) (_:x= .ref l) (_:y= .int k) (_:H l=some (.lst xs)) (_: -(2^63)<=k) (_:k<2^63) (_:xs.length*k.toNat<=sizeLine) (_:∀p,H p=none->Q (.ref p) (upd H p (.lst (List.replicate k.toNat xs).flatten)))
theorem len_rep{α:Type}(xs:List α)(k:Nat):(List.replicate k xs).flatten.length=k*xs.length:=by
 induction k with
 |zero=>simp
 |succ k ih=>rw[List.replicate_succ,List.flatten_cons,List.length_append,ih,Nat.succ_mul,Nat.add_comm]
theorem ZaY:OpR X (binaryOp .Mult) rRep:=by
 intro pins s σ H x y v u Q I rx ry h
 obtain⟨l,k,xs,rfl,rfl,hH,h1,h2,hz,q⟩:=h
 cases rx
 obtain⟨t,rfl⟩:=ry
 obtain⟨z,its,n,r,hl,e⟩:=I.lstM hH
 have hlen:its.toArray.size*k.toNat<=sizeLine:=by rw[List.size_toArray,<-hl];exact hz
 have hcap:¬its.toArray.size*k.toNat>(2^63-1)/8:=by
  have:(sizeLine:Nat)<=(2^63-1)/8:=by decide
  omega
 have hfit:¬(!Builtin.List.listFitsIndex k)=true:=by
  rw[fitsIndex_both h1 h2]
  exact Bool.false_ne_true
 have hlong:¬Builtin.List.listTooLong (its.toArray.size*k.toNat)=true:=by
  rw[ZcE hlen]
  exact Bool.false_ne_true
 have hnew:List.foldl (fun x1 x2=>x1++x2) #[] (List.replicate (if its.toArray.isEmpty=true then 0 else k.toNat) its.toArray)=(List.replicate k.toNat its).flatten.toArray:=by
  have f0:∀m:Nat,List.foldl (fun x1 x2=>x1++x2) #[] (List.replicate m its.toArray)=(List.replicate m its).flatten.toArray:=fun m=>by
   have:=foldl_rep its m []
   rw[List.nil_append]at this
   exact this
  rw[f0]
  cases its with
  |nil=>simp
  |cons a r'=>rw[if_neg (by simp)]
 refine wpAny_binaryOp_repeat_ref (T:="list") (U:="int") (by decide) ⟨_,e,rfl⟩ (fun s'=>typeIs_int s' k t) noFill_list_mul F.fills_int_mul F.slot_int_rmul repeat_list F.slot_int_index.lookup
  (call_meets F.slot_int_rmul (typeIs_int s k t) F.entry_int_rmul (F.args_int_rmul_2 _ _) (int___rmul___int_list k t l its.toArray n)
   ⟨e,rfl,⟨_,e,rfl⟩,call_meets F.slot_list_mul ⟨_,e,rfl⟩ F.entry_list_mul (F.args_list_mul_2 _ _) (AutoListH.list___mul___list_int_3 l its.toArray n k t hfit hcap hlong) ⟨e,?_⟩⟩)
 rw[hnew]
 exact⟨.ref _,_,I.lnew (t':=s.toks) (r.rep k.toNat) (by rw[len_rep,Nat.mul_comm];exact hz),rfl,q _ I.fresh⟩
end
end L2
namespace Att
open PySem PySem.W PySem.Calls PyProof.Rows
theorem Za4{P:Params}{h:Heap}:∀(ns:List Int)(vs:List Value),WellAll P h vs (ns.map WData.int)->IntsAre vs ns:=by
 intro ns
 induction ns with
 |nil=>
  intro vs w
  rw[List.map_nil]at w
  cases w
  exact .nil
 |cons n ns ih=>
  intro vs w
  rw[List.map_cons]at w
  cases w with
  |cons a b=>
   cases a
   exact .cons _ _ (ih _ b)
theorem Zex{l:OpenLaw}{n:Nat}(hn:l.most=some n){P:Params}{h:Heap}{args:List WData}{vals:List Value}
  (hpre:l.row.toRowW.claim.pre args=true)(hwl:WellAll P h vals args):
  ∃a vs ns,vals=[Value.ref a]/\args=[WData.list (ns.map WData.int)]/\h.get? a=some {cls:= .type "list",data:= .seq vs.toArray}/\IntsAre vs ns/\ns.length<=n:=by
 have hsh:WShape.hasAll [] args [.list .int]=true:=(pre_splitW hpre).1
 have hc:l.pre.holds [] {args:=args}=true:=(pre_splitW hpre).2
 obtain⟨d,r,rfl,h1,h2⟩:=hasAllW_cons hsh
 obtain rfl:=hasAllW_nil h2
 obtain⟨xs,rfl,h3⟩:=hasW_list h1
 obtain⟨ns,rfl⟩:=items_int h3
 have hlen:ns.length<=n:=by
  unfold OpenLaw.pre at hc
  have h4:(WTm.not (.lt (.lit (.int (n:Int))) (.len (.arg 0)))).holds [] {args:=[.list (ns.map .int)]}=true:=by
   have h4:=(holds_andW hc).1
   rw[hn]at h4
   exact h4
  have h5:=condW_of h4 (w_not (w_lt w_lit (w_len_list (w_arg rfl))))
  rw[List.length_map]at h5
  refine Nat.le_of_not_lt fun q=>?_
  have q':(n:Int)<((ns.length:Nat):Int):=by omega
  first
   |(rw[decide_eq_true q']at h5;exact absurd h5 (by decide))
   |(simp at h5;omega)
 cases hwl with
 |cons w1 w2=>
  cases w2
  cases w1 with
  |list ho hall=>exact⟨_,_,ns,rfl,rfl,ho,Za4 ns _ hall,hlen⟩
theorem Ze2(l:OpenLaw)(args:List WData):l.row.toRowW.claim.post args (.bool true) args=true:=
 postW_of (r:=l.row.toRowW) (X:=(true==true))
  (show WShape.has [] (.bool true) .bool=true by first|rfl|decide|simp[WShape.has,WShape.arms,WShape.armsAll])
  (show(WTm.eq .res (.lit (.bool true))).value [] {args:=args,res:=some (.bool true),after:=args}=some (.bool (true==true))from w_eq_bool (w_res rfl) w_lit) rfl
theorem attach_call{l:OpenLaw}{n:Nat}{q:Program}{loose:List Str}{XP:(Str->Option Value)->Heap->Prop}{YP:World->Heap->Prop}{d:DefRec}
  (hn:l.most=some n)(hdf:d.params.defaults=[])
  (call:∀(w:World)(s₀ s₁:Shared)(mg mb:Str->Option Value)(fa:Addr)(o:Obj)(pm cd doc:Value)(a:Addr)(vs:List Value)(ns:List Int),
   Ground q loose [] XP w s₀ mg mb s₁.heap->YP w s₁.heap->
   s₁.heap.get? fa=some o->o.data= .func (docDef d.name d.params d.body d.scope pm cd doc)->s₁.heap.CodeRec cd d.name->mg d.name=some (.ref fa)->
   s₁.heap.get? a=some {cls:= .type "list",data:= .seq vs.toArray}->IntsAre vs ns->ns.length<=n->s₁.gens=#[]->
   codeAny (model l.prog w) callerA (.call (.ref fa) ⟨[.ref a],[]⟩) (fun r s'=>r= .ok (.ret (.bool true))/\OldK s₁.heap s'.heap/\s'.os=s₁.os/\AllBare s'.gens) s₁):
  WalkO q loose XP YP l.row.toRowW d [] (fun f vs=>PySem.call f vs):=by
 intro w s₀ s₁ mg mb G Y fa o pm cd doc dV kV ho hd hcd hD hmg hg args vals as hpre hlay hrd hwl hlo
 obtain rfl:dV= .none:=Dflts.none hD hdf
 obtain rfl:kV= .none:=Dflts.noKw hD
 obtain⟨a,vs,ns,rfl,rfl,hobj,hints,hlen⟩:=Zex hn hpre hwl
 refine enter_call (codeAny_mono (call w s₀ s₁ mg mb fa o pm cd doc a vs ns G Y ho (fd_plain hd) hcd hmg hobj hints hlen hg) fun r s' hq=>?_)
 obtain⟨rfl,h2,h3,h4⟩:=hq
 exact⟨.inl ⟨.bool true,.bool true,[],rfl,fun _=>rfl,.bool true,Ze2 l _,fun _=>⟨List.Pairwise.nil,fun _ hm=>(nomatch hm)⟩⟩,h2,h3,h4⟩
end Att
namespace L2
open PySem PySem.Spec PyProof.Rows
theorem Zai:∀{vs:List Value}{ns:List Int},IntsAre vs ns->Vals (ns.map V.int) vs
 |_,_,.nil=> .nil
 |_,_,.cons n t h=> .cons ⟨t,rfl⟩ (Zai h)
def inClass(s:Stmt)(j:Nat):Stmt:=match s with
 | .ClassDef _ _ _ body _ _ _ _ _ _ _=>body.getD j (.Pass ⟨0,0,0,0⟩)
 |_=> .Pass ⟨0,0,0,0⟩
def J8(s:Stmt):Arguments:=match s with
 | .FunctionDef _ a _ _ _ _ _ _ _ _=>a
 |_=>{posonlyargs:=[],args:=[],vararg:=none,kwonlyargs:=[],kw_defaults:=[],kwarg:=none,defaults:=[]}
def ZK(s:Stmt):List Stmt:=match s with
 | .FunctionDef _ _ b _ _ _ _ _ _ _=>b
 |_=>[]
def Zh(s:Stmt):Scope:=match s with
 | .FunctionDef _ _ _ _ _ _ sc _ _ _=>sc
 |_=>{kind:= .function,names:=[],isGenerator:=false,isCoroutine:=false}
abbrev CX0:CXT:=fun _ _ _ _ _ _=>False
abbrev E0:XK:=fun _ _ _=>False
theorem ZhO{X:Cx}:Zbv CX0 X E0:=fun _ _ _ _ _ _ _ h=>h.elim
structure Fun(K:PySem.W.Frag)(x qual:Str)(st:Stmt)(f:Addr)(fd:FuncData):Prop where
 ex:∃(oc:Value)(od:Option Addr)(kV doc pm:Value)(an:Option Addr)(cdv ct:Value)(osl:Array (Option Value)),
  fd=PySem.W.fnOf x qual (J8 st) (ZK st) (Zh st) .none kV doc pm an cdv ct/\K.lookup f=some ⟨oc,od,.func fd,osl⟩/\PySem.W.codeIn K cdv qual=true
 kp:PySem.W.keepIn K (.ref f)=true
section
variable{P:Program}{w:World}{K:PySem.W.Frag}{mg:Str->Option Value}{base:Heap}
theorem Fun.ok{x qual:Str}{st:Stmt}{f:Addr}{fd:FuncData}{N ps:List Str}{k:Nat}{sp:Sp}(F:Fun K x qual st f fd)(S:Zr N ps (Zh st))(len:∀vs H Q E,sp vs H Q E->vs.length=ps.length)
  (hbody:∀(cdv:Value)(A:Around)(outer:List Env)(s:Shared)(H:Hp)(vs:List V)(Q:VK)(E:XK),Room k (A.deeper (envOfC qual (Zh st) s.heap.objs.size f cdv))->sp vs H Q E->
   ∃t,PSs (Yk CX0 P w K mg base N qual (Zh st) f cdv A outer s H E).nox (ZK st) t/\t {nx:=fun _ H'=>Q .non H',rt:=Q} (start N vs) H):FnOk P w K mg base CX0 (k+1) f fd ps sp:=by
 obtain⟨oc,od,kV,doc,pm,an,cdv,ct,osl,rfl,lk,hcd⟩:=F.ex
 refine ZcR lk hcd S len fun A outer s H vs Q E hr hsp=>?_
 obtain⟨t,h,q⟩:=hbody cdv A outer s H vs Q E hr hsp
 exact⟨t,h.nox,q⟩
theorem Fun.binds{x qual:Str}{st:Stmt}{f:Addr}{fd:FuncData}{ps:List Str}(F:Fun K x qual st f fd)
  (h:∀(kV doc pm:Value)(an:Option Addr)(cdv ct:Value)(us:List Value),us.length=ps.length->bindArgs (PySem.W.fnOf x qual (J8 st) (ZK st) (Zh st) .none kV doc pm an cdv ct) ⟨us,[]⟩=pure (ps.zip us)):Binds K fd ps []:=by
 obtain⟨oc,od,kV,doc,pm,an,cdv,ct,osl,rfl,lk,hcd⟩:=F.ex
 exact .all (h kV doc pm an cdv ct)
end
theorem ZdZ{A:Around}{k:Nat}(hr:Room k A):A.units+1<cLine:=Nat.lt_of_le_of_lt (Nat.add_le_add_left (by decide:1<=64) _) hr.units
section
variable{X:Cx}
theorem pv(i:Nat){x:Str}{pos:Pos}(hN:X.N[i]?=some x:=by rfl)(hv:Vis X.env.scope x:=by first|exact Or.inl rfl|exact Or.inr (Or.inl rfl)|exact Or.inr (Or.inr rfl))(hd:(x==("__debug__":Str))=false:=by decide)
  (hcd:(x==("__classdict__":Str))=false:=by decide):PE X (.Name x pos) (Ja i):=Zi5 hN hv hd hcd
end
theorem ZD{A B:Prop}(h:B):if false=true then A else B:=by
 rw[if_neg Bool.false_ne_true]
 exact h
theorem YA{A B:Prop}(h:A):if true=true then A else B:=by
 rw[if_pos rfl]
 exact h
theorem ZF{c A B:Prop}[Decidable c](h1:c->A)(h2:¬c->B):if c then A else B:=by
 by_cases h:c
 ·rw[if_pos h]
  exact h1 h
 ·rw[if_neg h]
  exact h2 h
def Same(H H':Hp):Prop:=∀b o,H b=some o->H' b=some o
theorem Same.refl(H:Hp):Same H H:=fun _ _ h=>h
theorem Same.trans{H H1 H2:Hp}(a:Same H H1)(b:Same H1 H2):Same H H2:=fun c o h=>b c o (a c o h)
theorem Same.free{H H':Hp}(e:Same H H'){l:Addr}(h:H' l=Option.none):H l=Option.none:=by
 cases q:H l with
 |none=>rfl
 |some o=>
  rw[e l o q]at h
  cases h
theorem Same.seq{K:PySem.W.Frag}{H H':Hp}{a:Addr}{xs:List V}(e:Same H H')(h:SqL K H a xs):SqL K H' a xs:=by
 rcases h with(h|⟨o,h⟩)|h
 ·exact .inl (.inl (e _ _ h))
 ·exact .inl (.inr ⟨o,e _ _ h⟩)
 ·exact .inr h
def ZA(X:Cx)(scope:Scope)(cl:List (Str×Addr))(C:Addr)(N:List Str)(fp:List Addr)(s:Shared)(H:Hp):Cx:=
 {X with N:=N,s₀:=s,H₀:=H,env:=compEnvC scope cl C X.env,outer:=X.stack,ex:=fp,fn:=fun _=>false,pn:=[],xe:=fun _ _=>False}
def PTs(X:Cx)(ifs:List Expr)(t:TT):Prop:=
 ∀(pins)(s)(σ:St)(H)(Q),Inv X pins σ H s->t σ H Q->
  wpAny (model X.prog X.w) X.A (forIn ifs true fun c r=>if r=true then do let ok<-isTrue c X.env (eval c X.env);pure (ForInStep.yield ok)else pure (ForInStep.yield r)) (TP X pins σ Q) X.xe s
def tTrue:TT:=fun _ H Q=>Q true H
theorem JR{X}:PTs X [] tTrue:=fun _ _ _ H _ I h=>wpAny_tests_nil ⟨H,I,h⟩
theorem Y8{X}{c}{t}(h:PT X c t):PTs X [c] t:=fun a s σ H Q I q=>wpAny_tests_one (h a s σ H Q I q)
theorem Y7{prog}{w}{A}{R:Result->Shared->Prop}{s}{elt target iter}{ifs:List _}{scope}{pos}{it acc}{env}(I:Nat->Shared->Prop)
  (turn:∀n s,I n s->wpAny (model prog w) A (pyNext it) (fun r s₁=>match r with
   |none=>R (.ok .next) s₁
   |some v=>wpAny (model prog w) A (letOwnedTupleGo target it v) (fun _ s₁'=>wpAny (model prog w) A (assign target env v) (fun _ s₂=>
     wpAny (model prog w) A (forIn ifs true fun c r=>if r=true then do let ok<-isTrue c env (eval c env);pure (ForInStep.yield ok)else pure (ForInStep.yield r)) (fun ok s₃=>
      if ok=true then wpAny (model prog w) A (eval elt env) (fun x s₄=>
       wpAny (model prog w) A (call (.builtin "list.append") [acc,x]) (fun _ s₅=>∃m,m<n/\I m s₅) (fun _ _=>False) s₄) (fun _ _=>False) s₃
      else∃m,m<n/\I m s₃) (fun _ _=>False) s₂) (fun _ _=>False) s₁') (fun _ _=>False) s₁) (fun _ _=>False) s)
  (n:Nat) (h:I n s):
  codeAny (model prog w) A (.compLoop (.ListComp elt [⟨target,iter,ifs,0⟩] scope pos) 0 it acc env) R s:=by
 have a:∀{α:Type}{t:Sem α}{Q:α->Shared->Prop}{E:Value->Shared->Prop}{s:Shared},wpAny (model prog w) A t Q (fun _ _=>False) s->wpAny (model prog w) A t Q E s:=
  fun h=>wpAny_mono h (fun _ _ q=>q) fun _ _ q=>q.elim
 refine codeAny_loop rfl I (fun n s k=>(wpAny_noted (wpAny_bind (wpAny_standAt (wpAny_bind (wpAny_mono (a (turn n s k)) (fun r s₁ f=>?_) fun _ _ b=>b)))))) n h
 cases r with
 |none=>exact wpAny_pure f
 |some v=>
  refine wpAny_bind (wpAny_mono (a f) (fun _ s₁' d=>(wpAny_bind (wpAny_mono (a d) (fun _ s₂ g=>wpAny_bind (wpAny_mono (a g) (fun ok s₃ e=>?_) fun _ _ b=>b)) fun _ _ b=>b))) fun _ _ b=>b)
  cases ok with
  |false=>exact wpAny_pure ⟨rfl,e⟩
  |true=>
   exact wpAny_bind (wpAny_bind (wpAny_mono (a e) (fun x s₄ j=>wpAny_bind (wpAny_mono (a j) (fun _ s₅ i=>wpAny_pure (wpAny_pure ⟨rfl,i⟩)) fun _ _ b=>b)) fun _ _ b=>b))
def BsOk(XN:List Str)(xn sn:List (Str×NameKind)):List Str->List (Option Nat)->Prop
 |[],[]=>True
 |_::N,none::bs=>BsOk XN xn sn N bs
 |x::N,some j::bs=>(XN[j]?=some x/\xn.lookup x=some .cell/\sn.lookup x=some .free)/\BsOk XN xn sn N bs
 |_,_=>False
def bst(bs:List (Option Nat))(σ:St):St:=bs.map fun o=>o.bind fun j=>(σ[j]?).join
theorem BsOk.len{XN}{xn sn}:∀{N}{bs},BsOk XN xn sn N bs->bs.length=N.length
 |[],[],_=>rfl
 |_::N,none::bs,h=>congrArg _ (BsOk.len (N:=N) (bs:=bs) h)
 |_::N,some _::bs,h=>congrArg _ (BsOk.len (N:=N) (bs:=bs) h.2)
theorem BsOk.get{XN}{xn sn}:∀{N}{bs}{i j:Nat},BsOk XN xn sn N bs->bs[i]?=some (some j)->∃x,N[i]?=some x/\XN[j]?=some x/\xn.lookup x=some .cell/\sn.lookup x=some .free
 |[],[],_,_,_,e=>by simp at e
 |_::N,none::bs,0,_,_,e=>by simp at e
 |_::N,none::bs,i+1,j,h,e=>by
  obtain⟨x,c,b⟩:=BsOk.get (bs:=bs) h (by simpa using e)
  simp_all
 |x::N,some k::bs,0,j,h,e=>by
  have:k=j:=by simpa using e
  subst this
  exact⟨x,rfl,h.1⟩
 |_::N,some k::bs,i+1,j,h,e=>by
  obtain⟨x,c,b⟩:=BsOk.get h.2 (by simpa using e)
  simp_all
theorem JO{env:Env}:∀{names:List (Str×NameKind)}{x:Str},names.lookup x=some .free->
  ((names.map fun(n,k)=>if(k==NameKind.free&&env.scope.kind== .function&&env.kindOf n==some .cell)then(n,NameKind.cell)else(n,k)).lookup x=some .cell\/
  (names.map fun(n,k)=>if(k==NameKind.free&&env.scope.kind== .function&&env.kindOf n==some .cell)then(n,NameKind.cell)else(n,k)).lookup x=some .free)
 |[],_,h=>by simp at h
 |(n,k)::r,x,h=>by
  have _:=@JO env r x
  grind
theorem JP{env:Env}:∀{names:List (Str×NameKind)}{x:Str},(∀y∈names,y.2≠.cell)->
  ((names.map fun(n,k)=>if(k==NameKind.free&&env.scope.kind== .function&&env.kindOf n==some .cell)then(n,NameKind.cell)else(n,k)).lookup x=some .cell\/
  (names.map fun(n,k)=>if(k==NameKind.free&&env.scope.kind== .function&&env.kindOf n==some .cell)then(n,NameKind.cell)else(n,k)).lookup x=some .free)->names.lookup x=some .free
 |[],_,_,h=>by simp at h
 |(n,k)::r,x,b,h=>by
  have _:=@JP env r x fun y a=>b y (.tail _ a)
  simp only[List.map_cons]at h
  grind
structure Blk(X:Cx)(scope:Scope)(cl:List (Str×Addr))(N:List Str)(bs:List (Option Nat)):Prop where
 clos:closureFor scope X.env=pure cl
 kind:scope.kind= .function
 cell:∀y∈scope.names,y.2≠.cell
 names:∀y∈scope.names,y.2= .local->scope.names.lookup y.1=some .local
 cl1:∀p∈cl,X.env.cells.lookup p.1=some p.2
 cl2:∀y∈scope.names,y.2= .free->(cl.lookup y.1).isSome=true
 bs:BsOk X.N X.env.scope.names scope.names N bs
section
variable{X:Cx}{scope:Scope}{cl:List (Str×Addr)}{N:List Str}{bs:List (Option Nat)}{pins:List (Addr×Obj)}{σ:St}{H:Hp}{s:Shared}{fp:List Addr}{C:Addr}
theorem Blk.c1(B:Blk X scope cl N bs){x}{c}(h:cl.lookup x=some c):X.env.cells.lookup x=some c:=B.cl1 _ (PySem.mem_of_lookup h)
theorem Blk.c2(B:Blk X scope cl N bs){x}(h:(compEnvC scope cl C X.env).kindOf x=some .cell\/(compEnvC scope cl C X.env).kindOf x=some .free):∃c,cl.lookup x=some c:=Option.isSome_iff_exists.mp (B.cl2 (x,.free) (PySem.mem_of_lookup (JP (env:=X.env) B.cell h)) rfl)
theorem Blk.ok(B:Blk X scope cl N bs)(I:Inv X pins σ H s)(hf:∀b∈fp,FpOk X pins H b) (ho:∀b∈fp,∃o,s.heap.get? b=some o/\∀v,o.data≠.cell v) (hC:s.heap.objs.size<=C):(ZA X scope cl C N fp s H).Ok:=by
 refine⟨I.ok.mod,B.kind,I.ok.glob,I.ok.blt,hC,fun x y c f k=>I.ok.inj x y c (B.c1 f) (B.c1 k),fun x h=>B.c2 h,fun x c h _=>(Bool.false_ne_true h).elim,I.ok.hd,I.ok.frames,.inl rfl,fun b a=>?_,I.bs,Nat.le_trans I.ok.bsz I.sz,fun b o e a=>?_,fun b a d=>?_,I.stack,I.stkFree⟩
 ·obtain⟨o,e,_⟩:=ho b a
  obtain⟨_,_,_,_,l,_⟩:=hf b a
  exact⟨Nat.ne_of_lt (Nat.lt_of_lt_of_le (Heap.lt_size e) hC),fun x c h=>l x c (B.c1 h)⟩
 ·obtain⟨_,_,_,j,_⟩:=hf b a
  rcases j with z|z
  ·exact I.ok.noex b o e z
  ·exact absurd (Nat.lt_of_lt_of_le (Heap.lt_size e) (Nat.le_trans I.ok.bsz z)) (Nat.lt_irrefl _)
 ·obtain⟨_,g,i,_⟩:=hf b a
  rcases List.mem_cons.mp (I.stkSub b d)with z|z
  ·exact g z
  ·exact i z
theorem Blk.inv(B:Blk X scope cl N bs)(I:Inv X pins σ H s)(hf:∀b∈fp,FpOk X pins H b) (ho:∀b∈fp,∃o,s.heap.get? b=some o/\∀v,o.data≠.cell v) (hC:s.heap.objs.size<=C) {h'} {t'}
  (hk:∀b o,s.heap.get? b=some o->h'.get? b=some o) {m:Str->Option _} (hn:h'.Ns C m) {D:Addr} {oD:Obj} (hD:h'.get? D=some oD) (hD1:s.heap.objs.size<=D) (hDC:D≠C) (hDd:∀v,oD.data≠.cell v):
  Inv (ZA X scope cl C N fp s H) [(D,oD)] (bst bs σ) H {s with heap:=h',toks:=t'}:=by
 refine⟨(B.ok I hf ho hC),rfl,I.bare,Un.kept hk,⟨m,hn,fun i x v M Q _=>?_⟩,fun x c h=>?_,I.hok.fresh hC,fun x c h=>I.freeC x c (B.c1 h),fun p S=>?_,I.hok.kept hk,?_⟩
 ·have a:=Q
  unfold bst at a
  rw[List.getElem?_map]at a
  cases q:bs[i]? with
  |none=>rw[q]at a;cases a
  |some o=>
   rw[q]at a
   cases o with
   |none=>cases a
   |some j=>
    obtain⟨y,F,J,E,A⟩:=B.bs.get q
    rw[(show N[i]?=some x from M)]at F
    cases F
    have K:σ[j]?=some (some v):=by
     have z:(σ[j]?).join=some v:=Option.some.inj a
     cases w:σ[j]? with
     |none=>rw[w]at z;cases z
     |some o=>rw[w]at z;rw[show o=some v from z]
    obtain⟨_,_,O⟩:=I.loc
    obtain⟨u,r,l⟩:=O j x v J K (.inr (.inl E))
    refine⟨u,r,.inr ⟨JO (env:=X.env) A,?_⟩⟩
    rcases l with⟨R,_⟩|⟨_,c,P,L⟩
    ·have g:X.env.scope.names.lookup x=some .local:=R
     rw[E]at g
     cases g
    ·obtain⟨_,h'⟩:=Option.isSome_iff_exists.mp (B.cl2 (x,.free) (PySem.mem_of_lookup A) rfl)
     have G:=B.c1 h'
     rw[P]at G
     cases G
     obtain⟨k,f,n⟩:=L
     exact⟨c,h',k,hk _ _ f,n⟩
 ·obtain⟨v,k,f,n⟩:=I.cell x c (B.c1 h)
  exact⟨v,k,hk _ _ f,n⟩
 ·have e:p=(D,oD):=by simpa[ZA]using S
  subst e
  refine⟨hD,I.hok.fresh hD1,hDC,fun z=>?_,hDd⟩
  rcases List.mem_cons.mp (I.stkSub D z)with q|q
  ·exact Nat.lt_irrefl _ (Nat.lt_of_lt_of_le I.lt (by rw[<-q];exact hD1))
  ·exact I.nofs hD1 q
 ·unfold bst
  rw[List.length_map]
  exact B.bs.len
end
def tLC(bs:List (Option Nat))(wi:TI)(g:TG)(tt:TT)(te:TE):TE:=fun σ H Q=>wi σ H fun J H1=>∃W:Nat->Nat->List V->St->Hp->Prop,(∃m,W 0 m [] (bst bs σ) H1)/\∀i m ys σ' H',W i m ys σ' H'->
 (J.stop i H'/\ys.length<=sizeLine/\∀p,H' p=none->Q (.ref p) (upd H' p (.lst ys)))\/
 (J.go i H'/\ys.length<sizeLine/\∃N:List V->St->Hp->Prop,(∀zs σ2 H2,N zs σ2 H2->∃m',m'<m/\W (i+1) m' zs σ2 H2)/\∀x H2,J.yld i H' x H2->g x σ' H2 fun σ3 H3=>tt σ3 H3 fun b H4=>
  if b=true then te σ3 H4 fun v H5=>N (ys++[v]) σ3 H5 else N ys σ3 H4)
theorem ZdS{X}{scope}{cl}{N}{bs}{tg iter elt}{ifs}{pos}{wi}{g}{tt}{te}(B:Blk X scope cl N bs)(hc:X.calm=true)
  (hi:PI X tg iter wi)(hg:∀C fp s H,PG (ZA X scope cl C N fp s H) tg g) (ht:∀C fp s H,PTs (ZA X scope cl C N fp s H) ifs tt) (he:∀C fp s H,PE (ZA X scope cl C N fp s H) elt te)
  (hs:∀x,foldedSetIterable iter X.env x=pure x:=by intro _;rfl):
  PE X (.ListComp elt [⟨tg,iter,ifs,0⟩] scope pos) (tLC bs wi g tt te):=by
 refine fun pins s σ H Q I h=>wpAny_comprehension_free rfl hs B.clos B.kind B.names (thn (hi pins s σ H _ I h) fun v s1 h1=>thn h1 fun itv f h2=>?_)
 obtain⟨it,fp,tn,J,H2,rfl,I2,T,m,f2,W,⟨m0,w0⟩,turn⟩:=h2
 refine wpAny_newObj_type (wpAny_newFunctionEnv B.cell (by intro y hy;simp at hy) (fun h₁ hns₁ M=>?_) B.kind)
 generalize hG:f.heap.push _=G at hns₁ M⊢
 have hC:G.objs.size=f.heap.objs.size+1:=by rw[<-hG,Heap.size_push]
 have hDC:f.heap.objs.size≠G.objs.size:=by rw[hC];exact Nat.ne_of_lt (Nat.lt_succ_self _)
 have O:f.heap.objs.size<=G.objs.size:=by rw[hC];exact Nat.le_succ _
 have old:=fun b o e=>M.extBut b o (by rw[hC];exact Nat.ne_of_lt (Nat.lt_succ_of_lt (Heap.lt_size e))) (Heap.get?_push_of_some _ (hG▸Heap.get?_push_of_some _ e))
 have L:∀{D}{o}{H':Hp},f.heap.objs.size<=D->(∀b∈fp,H' b=none)->∀b∈fp,FpOk (ZA X scope cl G.objs.size N fp f H2) [(D,o)] H' b:=fun{D o H'} hD hn b a=>by
  obtain⟨ob,eb,_⟩:=T.obj _ _ m b a
  obtain⟨_,f1,f3,f4,f5,_⟩:=f2 b a
  have ok:=B.ok I2 f2 (T.obj _ _ m) (C:=G.objs.size) O
  refine⟨hn b a,(ok.exf b a).1,ok.exfs b a,.inl a,(ok.exf b a).2,fun p hp=>?_⟩
  have e:p=(D,o):=by simpa[ZA]using hp
  subst e
  exact Nat.ne_of_gt (Nat.lt_of_lt_of_le (Heap.lt_size eb) hD)
 have loop:∀s₃:Shared,s₃={f with heap:=h₁,toks:=f.toks+([]:List (Str×Value)).length}->
   codeAny (model X.prog X.w) X.A (.compLoop (.ListComp elt [⟨tg,iter,ifs,0⟩] scope pos) 0 (.ref it) (.ref f.heap.objs.size) (compEnvC scope cl G.objs.size X.env))
    (compPost (model X.prog X.w) X.A X.xe none (EP X pins σ Q) (.ref f.heap.objs.size) G.objs.size) s₃:=by
  rintro s₃ rfl
  refine Y7 (fun n s'=>∃i ys l k σ' H',Inv (ZA X scope cl G.objs.size N fp f H2) [(f.heap.objs.size,{cls:= .type "list",data:= .seq (List.toArray l) k})] σ' H' s'/\Vals ys l/\tn i s'.heap/\(∀b∈fp,H' b=none)/\W i n ys σ' H') ?_ m0
   ⟨0,[],[],0,bst bs σ,H2,B.inv I2 f2 (T.obj _ _ m) O old hns₁ (M.extBut _ _ hDC (Heap.get?_push_of_some _ (hG▸Heap.get?_push_size _ rfl))) (Nat.le_refl _) hDC (fun v z=>nomatch z),.nil,T.keep _ _ _ m fun b _ o e=>old b o e,fun b a=>(f2 b a).1,w0⟩
  rintro n s3 ⟨i,ys,l,k,σ3,H3,I3,rv,st3,fr3,w3⟩
  rcases turn i n ys σ3 H3 w3 with⟨stop,hz,qn⟩|⟨go,hz,NN,hNN,step⟩
  ·refine thn (T.done (ZA X scope cl G.objs.size N fp f H2) rfl rfl rfl hc i _ s3 σ3 H3 (fun _ _=>False) I3 (L (Nat.le_refl _) fr3) st3 stop) fun r s4 xq1=>?_
   obtain⟨hr,I4⟩:=xq1
   subst hr
   have pD4:=I4.pin _ (List.mem_append_right _ (.head _))
   obtain⟨m4,hn4,_⟩:=I4.loc
   refine⟨m4,hn4,fun h5 sb5=>?_⟩
   have k5:=fun b o a e=>sb5.extBut b o a e
   have hok5:HOk X.prog X.w (upd H3 f.heap.objs.size (.lst ys)) h5:=fun b u e=>by
    by_cases a:b=f.heap.objs.size
    ·subst a
     rw[Zd]at e
     cases e
     exact⟨hz,l,k,rv,(sb5.extBut _ _ hDC pD4.1)⟩
    ·rw[Zf a]at e
     have nC:∀c u',H3 c=some u'->c≠G.objs.size:=fun c u' q z=>by rw[z,(show H3 G.objs.size=none from I4.free)]at q;cases q
     have nD:∀c u',H3 c=some u'->c≠f.heap.objs.size:=fun c u' q z=>by rw[z,pD4.2.1]at q;cases q
     refine(I4.hok b u e).stay (fun c v hc' q=>k5 c v ?_ q) (fun c q=>by rw[Zf (nD c _ q)];exact q) fun c xs q=>by rw[Zf (nD c _ q)];exact q
     rcases hc' with z|z
     ·rw[z];exact nC b u e
     ·exact nC c _ z
   have t:=I4.base
   have neC:∀b o,f.heap.get? b=some o->b≠G.objs.size:=fun b o e=>Nat.ne_of_lt (Nat.lt_of_lt_of_le (Heap.lt_size e) O)
   have un5:Un (frs X.stack) fp H2 (upd H3 f.heap.objs.size (.lst ys)) f.heap h5:={
    keep:=fun b o e n a hx=>k5 b o (neC b o e) (t.keep b o e n a hx)
    slot:=fun b o e n a hx=>let⟨sl,q⟩:=t.slot b o e n a hx;⟨sl,k5 b _ (neC b o e) q⟩
    free:=fun b o e n hx=>by rw[Zf ((show∀b o,f.heap.get? b=some o->b≠f.heap.objs.size from fun b o e=>Nat.ne_of_lt (Heap.lt_size e)) b o e)];exact t.free b o e n hx
    there:=fun b o e hx=>let⟨o',q⟩:=t.there b o e hx;⟨o',k5 b _ (neC b o e) q⟩
    tups:=fun b xs e=>by rw[Zf (Zk e (I2.hok.fresh (Nat.le_refl _)))];exact t.tups b xs e
    frzs:=fun b o u e=>by rw[Zf (Zk e (I2.hok.fresh (Nat.le_refl _)))];exact t.frzs b o u e
    tbls:=fun b ps e=>by rw[Zf (Zk e (I2.hok.fresh (Nat.le_refl _)))];exact t.tbls b ps e}
   refine⟨.ref f.heap.objs.size,_,I2.call' (s':={s4 with heap:=h5}) (I4.os) un5 hok5 I4.bare (fun b a=>?_),rfl,qn _ pD4.2.1⟩
   obtain⟨_,f1,f3,f4,f5,f6⟩:=f2 b a
   exact⟨f4,f1,f5,f6⟩
  ·refine thn (T.item (ZA X scope cl G.objs.size N fp f H2) rfl rfl rfl hc i _ s3 σ3 H3 (fun _ _=>False) I3 (L (Nat.le_refl _) fr3) st3 go) fun r s4 xq1=>?_
   obtain⟨u,hr,h4⟩:=xq1
   subst hr
   refine thn h4 fun _ s5⟨x,H5,I5,r5,y5,st5,fr5⟩=>thn (hg _ _ _ _ _ s5 σ3 H5 x u _ (I5.pinned (L (Nat.le_refl _) fr5) (T.obj _ _ st5)) r5 (step x H5 y5)) fun _ s6⟨σ6,H6,I6,q6⟩=>thn (ht _ _ _ _ _ s6 σ6 H6 _ I6 q6) fun ok s7 xq1=>?_
   obtain⟨H7,I7,q7⟩:=xq1
   have F:∀{σ8:St}{H8:Hp}{s8:Shared}{pl:List (Addr×Obj)},Inv (ZA X scope cl G.objs.size N fp f H2) (pl++Y4 fp s5.heap) σ8 H8 s8->tn (i+1) s8.heap/\∀b∈fp,H8 b=none:=fun{σ8 H8 s8 pl} I8=>
    ⟨T.keep _ _ _ st5 fun b a o e=>(I8.pin (b,o) (List.mem_append_right _ (List.mem_append_right _ (Yx a e)))).1,fun b a=>by
     obtain⟨o,e,d⟩:=T.obj _ _ st5 b a
     exact(I8.pin (b,o) (List.mem_append_right _ (List.mem_append_right _ (Yx a e)))).2.1⟩
   cases ok with
   |false=>
    rw[if_neg Bool.false_ne_true]at q7⊢
    obtain⟨m',hm,w7⟩:=hNN _ _ _ q7
    exact⟨m',hm,i+1,ys,l,k,σ6,H7,I7.unpinned,rv,(F I7).1,(F I7).2,w7⟩
   |true=>
    rw[if_pos rfl]at q7⊢
    refine thn (he _ _ _ _ _ s7 σ6 H7 _ I7 q7) fun y s8 xq1=>?_
    obtain⟨v8,H8,I8,r8,q8⟩:=xq1
    obtain⟨m',hm,w8⟩:=hNN _ _ _ q8
    have E:=I8.pin _ (List.mem_append_right _ (List.mem_append_left _ (.head _)))
    have hl:=rv.length
    refine wpAny_list_append_plain ⟨k,E.1⟩ (fun h9 pl9 sb9=>?_) (by rw[List.size_toArray];omega)
    obtain⟨k9,e9⟩:=pl9
    have I9:Inv (ZA X scope cl G.objs.size N fp f H2) (Y4 fp s5.heap) σ6 H8 {s8 with heap:=h9}:=(show Inv (ZA X scope cl G.objs.size N fp f H2) (Y4 fp s5.heap) σ6 H8 s8 from I8.pins_of fun p hp=>I8.pin p (List.mem_append_right _ (List.mem_append_right _ hp))).turned (it:=f.heap.objs.size) (t':=s8.toks) (fun b o a e=>sb9.extBut b o a e) E.2.1 E.2.2.1 (.inr (Nat.le_refl _))
     (fun x c e z=>by
      obtain⟨vc,oc,hoc,hd⟩:=I8.cell x c e
      rw[z,E.1]at hoc
      cases hoc
      cases hd)
     fun p hp z=>by
      obtain⟨q1,q2⟩:=Zaq (show p∈Y4 fp s5.heap by simpa[ZA]using hp)
      obtain⟨ob,eb,_⟩:=T.obj _ _ m p.1 q1
      exact Nat.lt_irrefl _ (by have:=Heap.lt_size eb;rw[z]at this;exact this)
    have hk9:∀b∈fp,∀o,s8.heap.get? b=some o->h9.get? b=some o:=fun b a o e=>sb9.extBut b o (fun z=>by
     obtain⟨ob,eb,_⟩:=T.obj _ _ m b a
     exact Nat.lt_irrefl _ (by have:=Heap.lt_size eb;rw[z]at this;exact this)) e
    refine⟨m',hm,i+1,ys++[v8],l++[y],k9,σ6,H8,I9.pins_of fun p hp=>?_,rv.append (.cons r8 .nil),T.keep _ _ _ (F I8).1 hk9,(F I8).2,w8⟩
    have e:p=(f.heap.objs.size,{cls:= .type "list",data:= .seq (List.toArray (l++[y])) k9}):=by simpa using hp
    subst e
    exact⟨(show h9.get? f.heap.objs.size=some {cls:= .type "list",data:= .seq (List.toArray (l++[y])) k9} by rw[e9];simp),E.2.1,E.2.2.1,E.2.2.2.1,fun v z=>nomatch z⟩
 exact codeAny_compStart_list (loop _ rfl) (T.self _ 0 _ _ _ (T.keep _ _ _ m fun b _ o e=>old b o e) (loop _ rfl))
theorem ZfL{K}{a}{xs:List V}{g:TG}{tt:TT}{te:TE}{σ:St}{H:Hp}{Q:VK}(Pv:Nat->List V->St->Hp->Prop)(hz:xs.length<=sizeLine)(h0:Pv 0 [] σ H)(hl:∀i ys σ H,i<=xs.length->Pv i ys σ H->SqT K H a xs/\ys.length<=i)
  (hs:∀i x ys σ H,xs[i]?=some x->Pv i ys σ H->g x σ H fun σ3 H3=>tt σ3 H3 fun b H4=>if b=true then te σ3 H4 fun v H5=>Pv (i+1) (ys++[v]) σ3 H5 else Pv (i+1) ys σ3 H4)
  (hd:∀ys σ H,Pv xs.length ys σ H->∀p,H p=none->Q (.ref p) (upd H p (.lst ys))):
  ∃W:Nat->Nat->List V->St->Hp->Prop,(∃m,W 0 m [] σ H)/\∀i m ys σ' H',W i m ys σ' H'->
   ((Itt K a).stop i H'/\ys.length<=sizeLine/\∀p,H' p=none->Q (.ref p) (upd H' p (.lst ys)))\/
   ((Itt K a).go i H'/\ys.length<sizeLine/\∃N:List V->St->Hp->Prop,(∀zs σ2 H2,N zs σ2 H2->∃m',m'<m/\W (i+1) m' zs σ2 H2)/\∀x H2,(Itt K a).yld i H' x H2->g x σ' H2 fun σ3 H3=>tt σ3 H3 fun b H4=>
    if b=true then te σ3 H4 fun v H5=>N (ys++[v]) σ3 H5 else N ys σ3 H4):=by
 refine⟨fun i m ys σ H=>m=xs.length-i/\i<=xs.length/\Pv i ys σ H,⟨xs.length,by simp,Nat.zero_le _,h0⟩,?_⟩
 rintro i m ys σ H ⟨rfl,d,p⟩
 obtain⟨q,_⟩:=hl i ys σ H d p
 by_cases c:i<xs.length
 ·refine .inr ⟨⟨xs,xs[i],q,by simp[c]⟩,by omega,Pv (i+1),fun zs σ' H' f=>⟨xs.length-(i+1),by omega,rfl,c,f⟩,fun x H' y=>?_⟩
  obtain⟨e,y⟩:=y
  grind
 ·have e:i=xs.length:=by omega
  subst e
  exact .inl ⟨⟨xs,q,Nat.le_refl _⟩,by omega,hd ys σ H p⟩
def BM(mg:Str->Option Value)(h:Heap):Prop:=
 ∃bm ob,mg "__builtins__"=some (.ref bm)/\bm≠builtinsNs/\h.get? bm=some ob/\ob.cls= .type "module"/\ob.dict=some builtinsNs/\ob.data= .plain
theorem ZeA{P}{w}{K:PySem.W.Frag}{mg mb:Str->Option _}{CX}{k}{fa a}{fd}{x}{sp}{s₁:Shared}{vs:List _}{ns:List _}{ts:List _}
  (KX:K.In s₁.heap)(hns:s₁.heap.Ns mainGlobals mg)(hb:s₁.heap.Ns builtinsNs mb)(hbb:∀x:Str,x≠"__name__"->mb x=bootBuiltins x) (hlim:s₁.heap.NoLimit) (hg:s₁.gens=#[])
  (ha:s₁.heap.get? a=some {cls:= .type "list",data:= .seq vs.toArray}) (hi:IntsAre vs ns) (hl:ns.length<=sizeLine) (hr:Room k callerA)
  (hT:∀Pt∈ts,s₁.heap.get? Pt=some (PySem.W.tabObj #[])/\isCodeTable s₁.heap Pt) (hKn:PySem.W.noTabs K=true) (hbm:BM mg s₁.heap)
  (F:∀base:Heap,K.In base->base.Ns mainGlobals mg->BM mg base->FnOk P w K mg base CX k fa fd [x] sp) (hbind:∀(s:Shared)(u:Value),BindsTo s fd ⟨[u],[]⟩ [(x,u)])
  (hsp:∀H:Hp,(∀Pt∈ts,H Pt=some (.tbl #[]))->SqL K H a (ns.map V.int)->sp [.ref a] H (fun v _=>v= .bl true) fun _ _ _=>False)
  (hCX:∀H e s',CX [] H s₁ (fun _ _ _=>False) e s'->False):
  codeAny (model P w) callerA (.call (.ref fa) ⟨[.ref a],[]⟩) (fun r s'=>r= .ok (.ret (.bool true))/\OldK s₁.heap s'.heap/\s'.os=s₁.os/\AllBare s'.gens) s₁:=by
 have rv:=Zai hi
 have aT:a ∉ ts:=fun z=>by
  have e:=(hT a z).1
  rw[ha]at e
  cases e
 have t:∀H:Hp,SqL K H a (ns.map V.int)->HOk P w H s₁.heap->(∀b,H b≠none->b=a\/b∈ts)->(H a≠none->K.lookup a=none)->(∀u,H a=some u->∃o xs,u= .frz o (.lst xs))->(∀Pt∈ts,H Pt=some (.tbl #[]))->
   codeAny (model P w) callerA (.call (.ref fa) ⟨[.ref a],[]⟩) (fun r s'=>r= .ok (.ret (.bool true))/\OldK s₁.heap s'.heap/\s'.os=s₁.os/\AllBare s'.gens) s₁:=by
  intro H hS hok hA hK hfz htb
  have f:∀{b:Addr}{o:Obj},s₁.heap.get? b=some o->H b=none->(Zcp s₁.heap H).get? b=some o:=fun e n=>ZfS e n
  have g:∀{b:Addr}{o:Obj},s₁.heap.get? b=some o->o≠{cls:= .type "list",data:= .seq vs.toArray}->o≠PySem.W.tabObj #[]->H b=none:=fun{b o} e n1 n2=>by
   grind
  have noA:∀{b:Addr}{o:Obj}{es:Array DictEntry}{ep:Nat},s₁.heap.get? b=some o->o.data= .dict es ep->H b=none:=fun{b o es ep} e d=>
   g e (fun z=>by rw[z]at d;cases d) fun z=>by rw[z]at d;cases d
  have l:∀{b:Addr}{m:Str->Option Value},s₁.heap.Ns b m->(Zcp s₁.heap H).Ns b m:=fun{b m}⟨o,es,ep,e,d,r⟩=>⟨o,es,ep,f e (noA e d),d,r⟩
  have hKb:=fun b o e=>f (KX b o e) (by
   cases q:H b with
   |none=>rfl
   |some u=>
    rcases hA b (by rw[q];simp)with z|z
    ·subst z
     rw[hK (by rw[q];simp)]at e;cases e
    ·have p:=(hT b z).1
     rw[KX b o e]at p
     cases p
     have h2:=List.all_eq_true.mp hKn (b,_) (PySem.W.mem_of_lookupK e)
     exact absurd h2 Bool.false_ne_true)
  have hBM:BM mg (Zcp s₁.heap H):=by
   obtain⟨bm,ob,b1,b2,b3,b4,b5⟩:=hbm
   exact⟨bm,ob,b1,b2,f b3 (g b3 (fun z=>by rw[z]at b4;exact absurd (Value.type.inj b4) (by decide)) fun z=>by rw[z]at b4;cases b4),b4,b5⟩
  refine codeAny_mono ((F _ hKb (l hns) hBM).run callerA [] s₁ H ⟨[.ref a],[]⟩ [.ref a] [.ref a] _ _ hr (show Env0 P w K mg (Zcp s₁.heap H) callerA [] s₁ H from⟨rfl,(show Mod K mg (Zcp s₁.heap H)from⟨hKb,l hns,⟨mb,l hb,hbb⟩,let⟨mc,h1,h2⟩:=hlim;⟨mc,l h1,h2⟩⟩),fun b o e=>ZgX e,Nat.le_of_eq (ZeE _ _),trivial,fun b hb=>absurd (show b∈([]:List Addr)from hb) (by simp),hok,.of_eq hg⟩) (hbind s₁ (.ref a)) (.cons rfl .nil) (hsp H htb hS)) fun r s' h=>?_
  cases r with
  |error e=>exact(hCX H e s' h).elim
  |ok fl=>
   cases fl with
   |next=>exact False.elim h
   |brk=>exact False.elim h
   |cont=>exact False.elim h
   |ret u=>
    obtain⟨v,H',os,bare,un,hok',r',q⟩:=h
    subst q
    obtain rfl:u=Value.bool true:=r'
    have key:∀b o,s₁.heap.get? b=some o->s'.heap.get? b=some o\/(b∈ts/\o=PySem.W.tabObj #[]/\∃ps,s'.heap.get? b=some (PySem.W.tabObj ps)):=fun b o e=>by
     cases q:H b with
     |none=>exact .inl (un.keep b o e q (by intro z;exact absurd (show b∈([]:List Addr)from z) (by simp)) (by simp))
     |some u=>
      rcases hA b (by rw[q];simp)with z|z
      ·subst z
       obtain⟨ob,xs,rfl⟩:=hfz u q
       have z2:=un.frzs b ob _ q
       obtain⟨p,_⟩:=hok b _ q
       obtain⟨e2,_⟩:=hok' b _ z2
       rw[e]at p;cases p
       exact .inl e2
      ·have p:=(hT b z).1
       rw[e]at p;cases p
       obtain⟨more,z2⟩:=un.tbls b _ (htb b z)
       exact .inr ⟨z,rfl,_,hok' b _ z2⟩
    refine⟨rfl,⟨fun b o e=>?_,fun b o e=>?_⟩,os,bare⟩
    ·rcases key b o e with z|⟨z,rfl,ps,z2⟩
     ·exact .inl z
     ·exact .inr (.inl ⟨(hT b z).2,rfl,#[],ps,rfl,by rw[z2];simp⟩)
    ·rcases key b o e with z|⟨z,rfl,ps,z2⟩
     ·exact⟨_,z⟩
     ·exact⟨_,z2⟩
 have tOk:∀{H:Hp}{Pt:Addr},Pt∈ts->ObjOk P w H s₁.heap Pt (.tbl #[]):=fun{H Pt} z=>(hT Pt z).1
 cases hk:K.lookup a with
 |some o=>
  have e:=KX a o hk
  rw[ha]at e
  cases e
  refine t (fun b=>if b∈ts then some (.tbl #[])else none) (.inr ⟨_,vs.toArray,_,hk,rfl,rfl,rfl,by rw[List.size_toArray,hi.length];exact hl,by simpa using rv⟩) (fun b u z=>?_) (fun b z=>?_) (fun z=>absurd (if_neg aT) z) (fun u z=>by rw[if_neg aT]at z;cases z) fun Pt z=>if_pos z
  ·by_cases hb:b∈ts
   ·have z':=(if_pos hb).symm.trans z
    cases z'
    exact tOk hb
   ·cases((if_neg hb).symm.trans z)
  ·by_cases hb:b∈ts
   ·exact .inr hb
   ·exact absurd (if_neg hb) z
 |none=>
  refine t (fun b=>if b=a then some (.frz {cls:= .type "list",data:= .seq vs.toArray} (.lst (ns.map V.int)))else if b∈ts then some (.tbl #[])else none) (.inl (.inr ⟨{cls:= .type "list",data:= .seq vs.toArray},if_pos rfl⟩)) (fun b u z=>?_) (fun b z=>?_) (fun _=>hk)
   (fun u z=>by rw[if_pos rfl]at z;cases z;exact⟨_,_,rfl⟩) fun Pt z=>by rw[if_neg (fun(q:Pt=a)=>aT (q▸z)),if_pos z]
  ·by_cases hb:b=a
   ·cases((if_pos hb).symm.trans z)
    subst hb
    exact⟨ha,by rw[List.length_map];exact hl,vs,_,rv,ha⟩
   ·grind
  ·by_cases hb:b=a
   ·exact .inl hb
   ·by_cases hb2:b∈ts
    ·exact .inr hb2
    ·exact absurd ((if_neg hb).trans (if_neg hb2)) z
theorem ZeW{l:PySem.W.OpenLaw}{n k:Nat}{q:Program}{loose:List _}{XP:(Str->Option _)->Heap->Prop}{YP:World->Heap->Prop}{d:DefRec}{K:Params->PySem.W.Frag}{sp:PySem.W.Frag->Sp}{x:Str}{ts:List _}
  (hn:l.most=some n)(hn2:n<=sizeLine)(hdf:d.params.defaults=[])(hr:Room k callerA)
  (hY:∀(w:World)(h:Heap),YP w h->(K w.params).In h) (hY2:∀(w:World)(h:Heap),YP w h->∀Pt∈ts,h.get? Pt=some (PySem.W.tabObj #[]))
  (hKn:∀w:World,PySem.W.noTabs (K w.params)=true) (hC:∀w:World,∀Pt∈ts,∃c,PySem.W.codeHdIn (K w.params) c Pt=true)
  (F:∀(w:World)(mg:Str->Option _)(fa:Addr)(h:Heap),(K w.params).In h->h.Ns mainGlobals mg->mg d.name=some (.ref fa)->
   ∃fd:FuncData,(∀(s:Shared)(u:Value),BindsTo s fd ⟨[u],[]⟩ [(x,u)])/\
    ∀base:Heap,(K w.params).In base->base.Ns mainGlobals mg->BM mg base->FnOk l.prog w (K w.params) mg base CX0 k fa fd [x] (sp (K w.params)))
  (hsp:∀(K:PySem.W.Frag)(H:Hp)(a:Addr)(ns:List Int),ns.length<=n->(∀Pt∈ts,H Pt=some (.tbl #[]))->SqL K H a (ns.map V.int)->sp K [.ref a] H (fun v _=>v= .bl true) fun _ _ _=>False):
  PySem.W.WalkO q loose XP YP l.row.toRowW d [] (fun f vs=>PySem.call f vs):=by
 refine Att.attach_call hn hdf fun w _ _ mg _ fa o _ _ _ a vs ns G Y _ _ _ p m j i C=>?_
 have t:=hY w _ Y
 obtain⟨fd,E,y⟩:=F w mg fa _ t G.T.g p
 refine ZeA t G.T.g G.T.b G.T.builtins G.T.nolimit C m j (Nat.le_trans i hn2) hr (fun Pt r=>⟨hY2 w _ Y Pt r,?_⟩) (hKn w) G.T.bmain y E (fun H B A=>hsp (K w.params) H a ns i B A) fun H e _ z=>z
 obtain⟨c,D⟩:=hC w Pt r
 exact((PySem.W.codeHd_of_K t D).tab (hY2 w _ Y Pt r)).isCodeTable
def Zeg(P:Program)(w:World)(K:PySem.W.Frag)(mg:Str->Option Value)(base:Heap)(N:List Str)(qual:Str)(scope:Scope)(cl:List (Str×Addr))(f c':Addr)(A:Around)(outer:List Env)(s:Shared)(H:Hp):Cx where
 prog:=P
 w:=w
 K:=K
 mg:=mg
 base:=base
 A:=A.deeper (PySem.W.envX qual scope s.heap.objs.size f (.ref c') cl)
 N:=N
 s₀:=s
 H₀:=H
 env:=PySem.W.envX qual scope s.heap.objs.size f (.ref c') cl
 outer:=outer
 stack:=PySem.W.envX qual scope s.heap.objs.size f (.ref c') cl::outer
 ex:=[]
 calm:=true
 fn:=fun _=>false
 pn:=[]
 xe:=fun _ _=>False
structure Lam(x:Str)(fr:List Str)(params:Arguments)(scope:Scope):Prop where
 kind:scope.kind= .function
 co:scope.isCoroutine=false
 gen:scope.isGenerator=false
 cell:∀y∈scope.names,y.2≠.cell
 par:scope.names.lookup x=some .local
 bind:∀(nm qual:Str)(body:Expr)(cl:List (Str×Addr))(pm cdv ct u:Value),bindArgs (PySem.W.kla_fn nm qual params body scope cl pm cdv ct) ⟨[u],[]⟩=pure [(x,u)]
 free:∀y∈fr,scope.names.lookup y=some .free
def Zgy(cl:List (Str×Addr))(H:Hp)(h:Heap)(fr:List Str)(fv:List V):Prop:=
 fr.length=fv.length/\∀(i:Nat)(y:Str)(v:V),fr[i]?=some y->fv[i]?=some v->∃u c,RelV v u/\cl.lookup y=some c/\h.IsCell c (some u)
theorem Zhf{P}{w}{K}{mg}{base}{k}{A}{outer}{s}{H}{nm qual}{params}{body}{scope}{cl}{pm ctv u}{c' f}{x}{fr}{fv}{v}{te}{Q}
  (L:Lam x fr params scope)(hr:Room (k+1) A)(e0:Env0 P w K mg base A outer s H)
  (hf:s.heap.get? f=some (PySem.W.kla_obj nm qual params body scope cl pm c' ctv))(hcd:s.heap.CodeRec (.ref c') qual)
  (hinj:∀y z c,cl.lookup y=some c->cl.lookup z=some c->y=z) (hhas:∀y∈scope.names,y.2= .free->(cl.lookup y.1).isSome=true) (hcells:∀y c,cl.lookup y=some c->(∃v,s.heap.IsCell c v)/\H c=none)
  (hC:Zgy cl H s.heap fr fv) (rv:RelV v u)
  (hbody:PE (Zeg P w K mg base (x::fr) qual scope cl f c' A outer s H) body te) (hq:te (some v::fv.map some) H Q):
  codeAny (model P w) A (.call (.ref f) ⟨[u],[]⟩) (CR CX0 outer P w H s Q E0) s:=by
 refine PySem.W.kla_callFunE hr.depth hf rfl L.co L.gen rfl hcd ?_
 rw[L.bind]
 refine wpAny_pure (wpAny_newFunctionEnv L.cell (fun y E=>?_) (fun G D t=>⟨(e0.mod.nolimit.keeps fun b o e=>(e0.bs b o e).1).fresh _ t,?_⟩) L.kind)
 ·obtain rfl:y=(x,u):=List.mem_singleton.mp E
  exact L.par
 have m:=fun b o e=>t.extBut b o (Nat.ne_of_lt (Heap.lt_size e)) (Heap.get?_push_of_some _ e)
 have d:∀c v,s.heap.IsCell c v->G.IsCell c v:=fun c v⟨o,O,V⟩=>⟨o,m _ _ O,V⟩
 have g:∀b:Addr,b ∉ (Zeg P w K mg base (x::fr) qual scope cl f c' A outer s H).ex:=fun b z=>absurd (show b∈([]:List Addr)from z) (by simp)
 have I:Inv (Zeg P w K mg base (x::fr) qual scope cl f c' A outer s H) [] (some v::fv.map some) H {s with heap:=G,toks:=s.toks+[(x,u)].length}:=by
  refine⟨⟨e0.mod,L.kind,rfl,rfl,Nat.le_refl _,hinj,fun y E=>?_,fun y c h _=>(Bool.false_ne_true h).elim,fun _=>hr.hd,Around.frames_deeper e0.frames,.inr ⟨rfl,rfl⟩,fun b z=>absurd z (g b),e0.bs,e0.bsz,fun b _ _=>g b,fun b z=>absurd z (g b),e0.funs,e0.frf⟩,
   rfl,e0.bare,Un.kept m,⟨_,D,fun i y z F T h3=>?_⟩,fun y c h=>?_,e0.hok.fresh (Nat.le_refl _),fun y c h=>(hcells y c h).2,fun p M=>absurd (show p∈([]:List (Addr×Obj))from M) (by simp),e0.hok.kept m,?_⟩
  ·rcases E with q|q
   ·exact absurd rfl (L.cell _ (PySem.mem_of_lookup q))
   ·exact Option.isSome_iff_exists.mp (hhas (y,.free) (PySem.mem_of_lookup q) rfl)
  ·cases i with
   |zero=>
    have B:x=y:=by simpa using(show(x::fr)[0]?=some y from F)
    have C:v=z:=by simpa using T
    subst B
    subst C
    refine⟨u,rv,.inl ⟨L.par,?_⟩⟩
    simp
   |_ j=>
    have B:fr[j]?=some y:=by simpa using(show(x::fr)[j+1]?=some y from F)
    have C:fv[j]?=some z:=by
     simp_all
    obtain⟨N,c,r,l,X⟩:=hC.2 j y z B C
    exact⟨N,r,.inr ⟨.inr (L.free y (List.mem_of_getElem? B)),c,l,d _ _ X⟩⟩
  ·obtain⟨⟨z,q⟩,_⟩:=hcells y c h
   exact⟨z,d _ _ q⟩
  ·show(some v::fv.map some).length=(x::fr).length
   simp[hC.1]
 refine PySem.W.kla_codeExpr (wpAny_mono (hbody [] _ _ H Q I hq) (fun z s' S=>?_) fun _ _ z=>z.elim)
 obtain⟨R,U,J,r',Y⟩:=S
 exact⟨R,U,J.os,J.bare,J.base,J.hok,r',Y⟩
def Zjn(qual:Str)(c':Addr):HO:= .ext fun h=>h.CodeRec (.ref c') qual
def TabI(P:Addr)(pos:Pos)(qual:Str)(H:Hp):Prop:=
 H P=some (.tbl #[])\/∃c',H P=some (.tbl #[rawInt pos.line,rawInt pos.col,.ref c'])/\H c'=some (Zjn qual c')
structure Gr(P:Addr)(pos:Pos)(qual:Str)(H H':Hp):Prop where
 keep:∀b o,H b=some o->b≠P->H' b=some o
 tab:TabI P pos qual H'
theorem Gr.refl{P}{pos}{qual}{H}(h:TabI P pos qual H):Gr P pos qual H H:=⟨fun _ _ e _=>e,h⟩
theorem Gr.trans{P:Addr}{pos:Pos}{qual:Str}{H H1 H2:Hp}(a:Gr P pos qual H H1)(b:Gr P pos qual H1 H2):Gr P pos qual H H2:=⟨fun c o e n=>b.keep c o (a.keep c o e n) n,b.tab⟩
theorem TabI.same{P}{pos}{qual}{H H'}(h:TabI P pos qual H)(s:Same H H'):TabI P pos qual H':=by
 rcases h with h|⟨a,c,b⟩
 ·exact .inl (s _ _ h)
 ·exact .inr ⟨a,s _ _ c,s _ _ b⟩
theorem Gr.same{P}{pos}{qual}{H H1 H2}(a:Gr P pos qual H H1)(b:Same H1 H2):Gr P pos qual H H2:=⟨fun c o e n=>b c o (a.keep c o e n),a.tab.same b⟩
theorem ZcW{h:Heap}{c':Addr}{qual:Str}(x:h.CodeRec (.ref c') qual):∃o,h.get? c'=some o:=by
 obtain⟨c,_,_,t,e,_,_⟩:=x
 simp_all
theorem Zbo{h1 h2:Heap}{c':Addr}{qual:Str}(x:h1.CodeRec (.ref c') qual)(k:∀o,h1.get? c'=some o->h2.get? c'=some o):h2.CodeRec (.ref c') qual:=by
 obtain⟨c,b,a,t,e,d,r⟩:=x
 cases e
 exact⟨c',b,a,t,rfl,k _ d,r⟩
theorem ZfM{X}{pins}{σ:St}{H}{s}{qual0}{params}{body}{scope}{cl}{c P}{pos}{E}{Q}
  (I:Inv X pins σ H s)(hbm:BM X.mg X.base)(hcl:closureFor scope X.env=pure cl)(hcode:X.env.code= .ref c)(hC:PySem.W.codeHdIn X.K c P=true)(hq0:X.env.qual++"<lambda>"=qual0)(hdef:defaultsOf params X.env=([],[]))
  (htab:TabI P pos qual0 H)
  (k:∀f c' pm ctv s' H',Inv X pins σ H' s'->Gr P pos qual0 H H'->s'.heap.get? f=some (PySem.W.kla_obj "<lambda>" qual0 params body scope cl pm c' ctv)->s.heap.objs.size<=f->H' f=none->H' c'=some (Zjn qual0 c')->Q (.ref f) s'):
  wpAny (model X.prog X.w) X.A (eval (.Lambda params body scope pos) X.env) Q E s:=by
 refine PySem.W.kla_eval hdef ?_
 rw[hq0]
 have hgs:=I.mod.glob.keeps I.bk
 have Ch:=PySem.W.codeHd_of_K I.kIn hC
 obtain⟨bm,ob,b1,b2,b3,b4,b5,b6⟩:=hbm
 have b3':=I.bk _ _ b3
 have bmH:=(I.bs _ _ b3).2
 have hbG:bm≠mainGlobals:=fun q=>by
  obtain⟨o,es,ep,e,hd,_⟩:=hgs
  rw[q,e]at b3';cases b3';rw[hd]at b6;cases b6
 rcases htab with h0|⟨c',h1,h2⟩
 ·have hP:=I.hok P _ h0
  have hgP:mainGlobals≠P:=fun q=>by
   obtain⟨o,es,ep,e,hd,_⟩:=hgs
   rw[q,hP]at e;cases e;cases hd
  refine PySem.W.kla_makeFunction (mg:=X.mg) hcl I.ok.glob hgs hcode Ch hP trivial rfl hgP ⟨bm,ob,b1,b2,hbG,(show bm≠P from fun q=>by rw[q,h0]at bmH;cases bmH),b3',b4,b5,b6⟩ fun c' ctv h' tk hx hge hlt hrec htb=>?_
  have hrec':(h'.push (PySem.W.kla_obj "<lambda>" qual0 params body scope cl ((X.mg "__name__").getD .none) c' ctv)).CodeRec (.ref c') qual0:=Zbo hrec fun o e=>Heap.get?_push_of_some _ e
  have hPc:P≠c':=fun z=>Nat.lt_irrefl _ (Nat.lt_of_lt_of_le (Heap.lt_size hP) (by rw[z];exact hge))
  have kp:∀b o,b≠P->s.heap.get? b=some o->(h'.push (PySem.W.kla_obj "<lambda>" qual0 params body scope cl ((X.mg "__name__").getD .none) c' ctv)).get? b=some o:=fun b o hb e=>Heap.get?_push_of_some _ (hx b o hb e)
  have nP:∀b,H b=none->b≠P:=fun b n z=>by rw[z,h0]at n;cases n
  have hN:∀b u,H b=some u->b≠c':=fun b u e=>Zk e (I.hok.fresh hge)
  have htb':(h'.push (PySem.W.kla_obj "<lambda>" qual0 params body scope cl ((X.mg "__name__").getD .none) c' ctv)).get? P=some (PySem.W.tabObj #[rawInt pos.line,rawInt pos.col,.ref c']):=by
   have:=Heap.get?_push_of_some (PySem.W.kla_obj "<lambda>" qual0 params body scope cl ((X.mg "__name__").getD .none) c' ctv) htb
   simpa using this
  have a:=Nat.le_of_lt (Nat.lt_of_le_of_lt hge hlt)
  refine k _ c' _ ctv _ (upd (upd H P (.tbl #[rawInt pos.line,rawInt pos.col,.ref c'])) c' (Zjn qual0 c')) (I.un (t':=tk) ?_ ?_) ⟨fun b o e n=>?_,.inr ⟨c',?_,Zd⟩⟩ (Heap.get?_push_size _ rfl) a ?_ Zd
  ·exact{
    keep:=fun b o e n _ _=>kp b o (nP b n) e
    slot:=fun b o e n _ _=>⟨o.slots,kp b o (nP b n) e⟩
    free:=fun b o e n _=>by rw[Zf (Nat.ne_of_lt (Nat.lt_of_lt_of_le (Heap.lt_size e) hge)),Zf (nP b n)];exact n
    there:=fun b o e _=>by
     grind
    tups:=fun b xs e=>by rw[Zf (hN b _ e),Zf (fun z=>by rw[z,h0]at e;cases e)];exact e
    frzs:=fun b o u e=>by rw[Zf (hN b _ e),Zf (fun z=>by rw[z,h0]at e;cases e)];exact e
    tbls:=fun b ps e=>by
     by_cases hb:b=P
     ·subst hb
      rw[h0]at e
      cases e
      exact⟨#[rawInt pos.line,rawInt pos.col,.ref c'],by rw[Zf hPc,Zd];simp⟩
     ·exact⟨#[],by rw[Zf (hN b _ e),Zf hb,e];simp⟩}
  ·intro b u e
   by_cases hb:b=c'
   ·subst hb
    rw[Zd]at e
    cases e
    exact⟨hrec',ZcW hrec',fun h1 h2 x q=>Zbo x fun o e=>q o e⟩
   ·rw[Zf hb]at e
    by_cases hb2:b=P
    ·subst hb2
     rw[Zd]at e
     cases e
     exact htb'
    ·rw[Zf hb2]at e
     refine(I.hok b u e).stay (fun d v hd q=>kp d v ?_ q) (fun d q=>by rw[Zf (hN d _ q),Zf (fun z=>by rw[z,h0]at q;cases q)];exact q) fun d xs q=>by rw[Zf (hN d _ q),Zf (fun z=>by rw[z,h0]at q;cases q)];exact q
     rcases hd with z|z
     ·rw[z];exact hb2
     ·intro z2
      rw[z2,h0]at z
      cases z
  ·rw[Zf (hN b o e),Zf n];exact e
  ·rw[Zf hPc,Zd]
  ·rw[Zf (Nat.ne_of_gt hlt),Zf (Nat.ne_of_gt (Nat.lt_of_lt_of_le (Heap.lt_size hP) a))]
   exact I.hok.fresh a
 ·exact PySem.W.kla_makeFunctionHit (mg:=X.mg) hcl I.ok.glob hgs hcode Ch (I.hok P _ h1) trivial (cv:= .ref c') (by simp[codeAmong,rawInt]) ⟨bm,ob,b1,b2,hbG,(show bm≠P from fun q=>by rw[q,h1]at bmH;cases bmH),b3',b4,b5,b6⟩ fun ctv h' tk hk a=>k _ c' _ ctv _ H (I.kept (t':=tk) fun b o e=>Heap.get?_push_of_some _ (hk b o e)) (.refl (.inr ⟨c',h1,h2⟩)) (Heap.get?_push_size _ rfl) a (I.hok.fresh a) h2
theorem FpOk.pin1{X:Cx}{pins pins':List (Addr×Obj)}{σ:St}{H:Hp}{s:Shared}{b:Addr}{o:Obj}(f:FpOk X pins H b)(_:Inv X pins' σ H s)(e:s.heap.get? b=some o)(d:∀v,o.data≠.cell v):
  s.heap.get? (b,o).1=some (b,o).2/\H (b,o).1=none/\(b,o).1≠X.env.locals/\(b,o).1 ∉ X.fs/\∀v,(b,o).2.data≠.cell v:=⟨e,f.1,f.2.1,f.2.2.1,d⟩
section
variable{X:Cx}{pins:List (Addr×Obj)}{σ:St}{H:Hp}{s:Shared}{A:Around}{E:Value->Shared->Prop}{a kS:Addr}{b:Bool}{vs:List Value}{kz:List Int}{keys:Array Value}{e e1:Nat}{P:PySem.Fin->Shared->Prop}
theorem Inv.own1{c}{h'}(I:Inv X pins σ H s)(f:FpOk X pins H c)(hs:Heap.SameBut c s.heap h'):Inv X pins σ H {s with heap:=h'}:=
 I.turned (fun d o a q=>(hs.2 d a).trans q) f.1 f.2.1 f.2.2.2.1 f.2.2.2.2.1 f.2.2.2.2.2
theorem Inv.track{D:Addr}{o:HO}(I:Inv X pins σ H s)(f:FpOk X pins H D)(hD:X.s₀.heap.objs.size<=D)(new:ObjOk X.prog X.w (upd H D o) s.heap D o):Inv X pins σ (upd H D o) s:=by
 have a:∀c u,H c=some u->c≠D:=fun c u q=>Zk q f.1
 refine⟨I.ok,I.os,I.bare,⟨I.base.keep,I.base.slot,fun c b q n j=>?_,I.base.there,fun c g q=>?_,fun c b u q=>?_,fun c i q=>?_⟩,I.loc,I.cell,?_,fun x c q=>?_,fun p e=>?_,fun c u q=>?_,I.len⟩
 ·rw[Zf (Nat.ne_of_lt (Nat.lt_of_lt_of_le (Heap.lt_size q) hD))]
  exact I.base.free c b q n j
 ·have z:=I.base.tups c g q
  rw[Zf (a c _ z)];exact z
 ·have z:=I.base.frzs c b u q
  rw[Zf (a c _ z)];exact z
 ·obtain⟨_,z⟩:=I.base.tbls c i q
  exact⟨_,by rw[Zf (a c _ z)];exact z⟩
 ·rw[Zf (Ne.symm f.2.1)];exact I.free
 ·rw[Zf (f.2.2.2.2.1 x c q)];exact I.freeC x c q
 ·obtain⟨m,k,l⟩:=I.pin p e
  exact⟨m,by rw[Zf (f.2.2.2.2.2 p e)];exact k,l⟩
 ·by_cases h:c=D
  ·subst h;rw[Zd]at q;cases q;exact new
  ·rw[Zf h]at q
   exact(I.hok c u q).stay (fun _ _ _ r=>r) (fun d r=>by rw[Zf (a d _ r)];exact r) fun d g r=>by rw[Zf (a d _ r)];exact r
theorem ZbC{st:SortSt}(I:Inv X pins σ H s)(fk:FpOk X pins H kS)(fa:FpOk X pins H a)(hka:kS≠a)(nk:s.heap.get? kS=some (seqObj "list" keys e))(na:s.heap.get? a=some (seqObj "list" #[] e1))
  (hk:IntsAre keys.toList kz)(hlen:kz.length=vs.length)(h64:vs.length<64)(hp:(arrOf st).Perm (keys.zip vs.toArray))(hs:SortedTo (arrOf st) (arrOf st).size)(hfl:failedOf st=none)
  (h:∀s' out c,Inv X pins σ H s'->s'.heap.get? a=some (seqObj "list" out c)->KskOut b kz vs out.toList->P (.done (.ret .none)) s'):
  wpAny (model X.prog X.w) A (ksk_tail a b e1 (.ref kS) st) P E s:=by
 have hsz:keys.size=vs.length:=by
  have h1:=hk.length
  rw[Array.length_toList]at h1
  omega
 have hsz2:(arrOf st).size=vs.length:=by rw[hp.size_eq,Array.size_zip,hsz,List.size_toArray,Nat.min_self]
 have hout:(if b then((arrOf st).map (·.2)).reverse else(arrOf st).map (·.2)).size=vs.length:=by
  cases b with
  |false=>simp[Bool.false_eq_true,if_false,Array.size_map];exact hsz2
  |true=>simp[if_true,Array.size_reverse,Array.size_map];exact hsz2
 have s1:=Heap.SameBut.update s.heap kS (Obj.mapSeq fun _=>(#[]:Array Value))
 have na1:=(s1.2 a hka.symm).trans na
 have s2:=Heap.SameBut.update (s.heap.update kS (Obj.mapSeq fun _=>(#[]:Array Value))) a (Obj.mapSeq fun _=>if b then((arrOf st).map (·.2)).reverse else(arrOf st).map (·.2))
 obtain⟨c2,hc2⟩:∃c2,((s.heap.update kS (Obj.mapSeq fun _=>(#[]:Array Value))).update a (Obj.mapSeq fun _=>if b then((arrOf st).map (·.2)).reverse else(arrOf st).map (·.2))).get? a=some (seqObj "list" (if b then((arrOf st).map (·.2)).reverse else(arrOf st).map (·.2)) c2):=
  ⟨_,get?_update_seq na1 fun _=>if b then((arrOf st).map (·.2)).reverse else(arrOf st).map (·.2)⟩
 have I1:=I.own1 fk s1
 have I2:=I1.own1 fa s2
 unfold ksk_tail
 try dsimp only
 refine wpAny_bind (listUpdate_at nk rfl (wpAny_bind (wpAny_letGo (wpAny_bind (seqEpoch_at na1 rfl (wpAny_bind (listUpdate_at na1 rfl ?_ (Nat.zero_le _) (Nat.le_trans (Nat.le_of_eq hout) (by rw[sizeLine_eq];omega)))))))) (by rw[hsz,sizeLine_eq];omega) (Nat.zero_le _))
 rw[hfl]
 simp[bne_self_eq_false,Bool.false_eq_true,if_false]
 exact wpAny_pure (h _ _ c2 I2 hc2 (ksk_out hk hp hs))
theorem Zfm(I:Inv X pins σ H s)(fk:FpOk X pins H kS)(fa:FpOk X pins H a)(hka:kS≠a)(nk:s.heap.get? kS=some (seqObj "list" keys e))(na:s.heap.get? a=some (seqObj "list" #[] e1))
  (hk:IntsAre keys.toList kz)(hlen:kz.length=vs.length)(h64:vs.length<64)
  (h:∀s' out c,Inv X pins σ H s'->s'.heap.get? a=some (seqObj "list" out c)->KskOut b kz vs out.toList->P (.done (.ret .none)) s'):
  wpAny (model X.prog X.w) A (ksk_end a b vs.toArray e1 (.ref kS) keys) P E s:=by
 have p:keys.size=vs.length:=by
  have h1:=hk.length
  rw[Array.length_toList]at h1
  omega
 have l:(keys.zip vs.toArray).size=vs.length:=by rw[Array.size_zip,p,List.size_toArray,Nat.min_self]
 have step:∀t:Sem _,wpAny (model X.prog X.w) A t P E s->wpAny (model X.prog X.w) A (if b=true then(do let _<-rule "list.sort.reverse";t)else t) P E s:=by
  intro t ht
  split
  ·exact wpAny_bind (wpAny_rule ht)
  ·exact ht
 have d:(if b=true then(keys.zip vs.toArray).reverse else keys.zip vs.toArray).Perm (keys.zip vs.toArray):=by
  cases b with
  |false=>exact Array.Perm.refl _
  |true=>exact Array.perm_iff_toList_perm.mpr (by rw[if_pos rfl,Array.toList_reverse];exact List.reverse_perm _)
 unfold ksk_end
 try dsimp only
 refine step _ ?_
 by_cases m:vs.toArray.size<2
 ·rw[if_pos m,if_pos m]
  refine wpAny_bind (wpAny_pure (wpAny_bind (wpAny_pure ?_)))
  try dsimp only
  refine ZbC (st:=SortSt.mk' general' (if b=true then(keys.zip vs.toArray).reverse else keys.zip vs.toArray) #[] 7 none) I fk fa hka nk na hk hlen h64 d ?_ rfl h
  intro i j hij hj
  rw[d.size_eq,l]at hj
  rw[List.size_toArray]at m
  have:i=j:=by omega
  subst this
  exact Int.le_refl _
 ·rw[if_neg m,if_neg m]
  rw[List.size_toArray]at m
  rw[ksk_kind hk (by rw[p];omega)]
  refine wpAny_bind (wpAny_pure (wpAny_bind (wpAny_mono (wpS_sortRuns (a₀:=keys.zip vs.toArray) (st:=SortSt.mk' oneType' (if b=true then(keys.zip vs.toArray).reverse else keys.zip vs.toArray) #[] 7 none)
   (Q:=fun _ k=>(arrOf k).Perm (keys.zip vs.toArray)/\failedOf k=none/\SortedTo (arrOf k) (keys.zip vs.toArray).size)
   (ksk_intKeys hk) ⟨d,rfl,rfl,rfl⟩ (by rw[l];omega) (by rw[l];exact h64) fun k a1 a2 a3=>⟨a1,a2,a3⟩) ?_ fun _ _ e=>e)))
  rintro⟨⟨⟩,k⟩ s' ⟨rfl,q,hf,hs⟩
  try dsimp only
  exact ZbC I fk fa hka nk na hk hlen h64 q (by rw[q.size_eq];exact hs) hf h
def Zcw(X:Cx)(pins:List (Addr×Obj))(σ:St)(H:Hp)(A:Around)(f v:Value)(k:Int):Prop:=
 ∀s' pl,Inv X (pins++pl) σ H s'->wpAny (model X.prog X.w) A (call f [v]) (fun u s''=>RelV (.int k) u/\Inv X (pins++pl) σ H s'') (fun _ _=>False) s'
theorem Zew{f}(I:Inv X pins σ H s)(fk:FpOk X pins H kS)(fa:FpOk X pins H a)(hka:kS≠a)(nk:s.heap.get? kS=some (seqObj "list" #[] 0))(na:s.heap.get? a=some (seqObj "list" #[] e1))
  (hlen:kz.length=vs.length)(h64:vs.length<64)
  (turn:∀(i:Nat)(v:Value)(k:Int),vs[i]?=some v->kz[i]?=some k->Zcw X pins σ H A f v k)
  (h:∀s' out c,Inv X pins σ H s'->s'.heap.get? a=some (seqObj "list" out c)->KskOut b kz vs out.toList->P (.done (.ret .none)) s'):
  wpAny (model X.prog X.w) A (ksk_rest a f b vs.toArray e1 (.ref kS)) P E s:=by
 refine wpAny_bind (wpAny_rule ?_)
 first
  |rw[List.forIn_toArray]
  |grind
  |omega
 refine wpAny_bind (ksk_fold (fun i s'=>∃d e,Inv X _ σ H s'/\s'.heap.get? kS=some (seqObj "list" d e)/\s'.heap.get? a=some _/\IntsAre d.toList (kz.take i)) vs 0 s
  ⟨_,0,I,nk,na,by simpa using IntsAre.nil⟩ ?step ?done)
 case step=>
  rintro j x s' hx ⟨d,e,I',l,na',hk⟩
  simp only[Nat.zero_add]at hk⊢
  have hj:=(List.getElem?_eq_some_iff.mp hx).1
  obtain⟨k,hkj⟩:∃k,kz[j]?=some k:=⟨_,List.getElem?_eq_getElem (by omega)⟩
  have hz:d.size<=vs.length:=by
   have h1:=hk.length
   rw[Array.length_toList,List.length_take]at h1
   omega
  have Ip:=I'.pins_of fun p hp=>by
   rcases List.mem_append.mp hp with z|z
   ·exact I'.pin p (List.mem_append_right _ z)
   ·rcases List.mem_cons.mp z with z|z
    ·rw[z];exact fk.pin1 I' l fun v z=>nomatch z
    ·rw[List.mem_singleton.mp z];exact fa.pin1 I' na' fun v z=>nomatch z
  refine wpAny_bind (wpAny_attempt (wpAny_mono (turn j x k hx hkj s' _ Ip) (fun v s'' he=>?_) fun _ _ hF=>hF.elim))
  obtain⟨⟨t2,rfl⟩,I2⟩:=he
  try dsimp only
  have nk2:=(I2.pin (kS,seqObj "list" d e) (List.mem_append_right _ (List.mem_append_right _ (.head _)))).1
  have s1:=Heap.SameBut.update s''.heap kS (Obj.mapSeq (·.push (.int k t2)))
  obtain⟨c2,hc2⟩:∃c2,(s''.heap.update kS (Obj.mapSeq (·.push (.int k t2)))).get? kS=some (seqObj "list" (d.push (.int k t2)) c2):=⟨_,get?_update_seq nk2 (·.push (.int k t2))⟩
  exact wpAny_bind (listUpdate_at nk2 rfl (wpAny_pure ⟨rfl,d.push (.int k t2),c2,I2.unpinned.own1 fk s1,hc2,(s1.2 a hka.symm).trans ((I2.pin (a,seqObj "list" #[] e1) (List.mem_append_right _ (List.mem_append_right _ (.tail _ (.head _))))).1),by rw[(show(d.push (Value.int k t2)).toList=d.toList++[Value.int k t2] by simp),(show kz.take (j+1)=kz.take j++[k] by rw[List.take_add_one,hkj];simp)];exact ksk_snoc hk⟩) (by rw[sizeLine_eq];omega) (Nat.le_trans (Nat.le_of_eq (Array.size_push ..)) (by rw[sizeLine_eq];omega)))
 case done=>
  rintro s' ⟨d,e,I',l,na',hk⟩
  have hk':IntsAre d.toList kz:=by
   grind
  try dsimp only
  exact wpAny_bind (listItems_at l rfl (Zfm I' fk fa hka l na' hk' hlen h64 h))
theorem Zev{f}{n}(I:Inv X pins σ H s)(fa:FpOk X pins H a)(ho:s.heap.get? a=some (seqObj "list" vs.toArray n))
  (hlen:kz.length=vs.length)(h64:vs.length<64)
  (turn:∀(i:Nat)(v:Value)(k:Int),vs[i]?=some v->kz[i]?=some k->Zcw X pins σ H A f v k)
  (h:∀s' out c,Inv X pins σ H s'->s'.heap.get? a=some (seqObj "list" out c)->KskOut b kz vs out.toList->P (.done (.ret .none)) s'):
  wpAny (model X.prog X.w) A (ksk_tree a f b) P E s:=by
 have ha:=Heap.lt_size ho
 obtain⟨e1,e⟩:∃e1,(s.heap.update a (Obj.mapSeq fun _=>(#[]))).get? a=some _:=⟨_,get?_update_seq ho fun _=>#[]⟩
 have j:((s.heap.update a (Obj.mapSeq fun _=>(#[]))).push (seqObj "tuple" vs.toArray 0)).objs.size=s.heap.objs.size+1:=by simp_all
 have fk:FpOk X pins H ((s.heap.update a (Obj.mapSeq fun _=>(#[]))).push (seqObj "tuple" vs.toArray 0)).objs.size:=by
  rw[j]
  exact I.fpOk (Nat.le_succ _) (I.hok.fresh (Nat.le_succ _))
 exact wpAny_bind (listItems_at ho rfl (wpAny_bind (listUpdate_at ho rfl (wpAny_bind (seqEpoch_at e rfl (wpAny_bind (wpAny_newTuple (wpAny_bind (wpAny_newList (wpAny_holding (Zew
  (show Inv X _ σ H {s with heap:=((s.heap.update a (Obj.mapSeq fun _=>(#[]))).push _).push _}from(I.own1 fa (Heap.SameBut.update s.heap a (Obj.mapSeq fun _=>(#[])))).kept fun c o q=>Heap.get?_push_of_some _ (Heap.get?_push_of_some _ q)) fk fa (by grind) (Heap.get?_push_size _ rfl) (Heap.get?_push_of_some _ (Heap.get?_push_of_some _ e)) hlen h64 turn h)) (Nat.zero_le _))) (by show vs.length<=_;rw[sizeLine_eq];omega))))) (by rw[List.size_toArray,sizeLine_eq];omega) (Nat.zero_le _))))
end
section
variable{X:Cx}{pins:List (Addr×Obj)}{σ:St}{H:Hp}{s:Shared}{E:Value->Shared->Prop}
theorem Zdn{l f}{ns}{g:Int->Int}{Q}(I:Inv X pins σ H s)(hl:SqL X.K H l (ns.map V.int))(h64:ns.length<64)
  (turn:∀(n:Int)(t:Tok),n∈ns->Zcw X pins σ H X.A.in1.in1 (.ref f) (.int n t) (g n))
  (done:∀(D:Addr)(ns':List Int)(s':Shared),H D=none->ns'.Perm ns->ns'.Pairwise (fun x y=>g x<=g y)->Inv X pins σ (upd H D (.lst (ns'.map V.int))) s'->Q (.ref D) s'):
  wpAny (model X.prog X.w) X.A (call (.builtin "sorted") [.ref l] [(Str.ofString "key",.ref f)]) Q E s:=by
 obtain⟨a,rvs,pl,_⟩:=I.list hl
 have hi:=intsAre_of rvs
 have hlen:=hi.length
 have hlz:(ns.map g).length=a.length:=by rw[List.length_map,hlen]
 refine call_function_entry_kw kind_sorted plain_sorted entry_sorted (ksk_s1 _ _) (wpAny_bind (m:=checkCount "sorted" 1 1 _) (wpAny_pure (wpAny_bind (collect_list pl.isList (wpAny_bind (wpAny_newList ?_ (by rw[sizeLine_eq];omega))) (by rw[sizeLine_eq];omega)))))
 have z:((s.heap.push (seqObj "list" #[] 0)).update s.heap.objs.size (Obj.mapSeq (·++a.toArray))).objs.size=s.heap.objs.size+1:=by
  rw[Heap.size_update,size_push']
 have hoL:(((s.heap.push (seqObj "list" #[] 0)).update s.heap.objs.size (Obj.mapSeq (·++a.toArray))).push (seqObj "list" a.toArray 0)).get? (s.heap.objs.size+1)=some (seqObj "list" a.toArray 0):=by
  rw[<-z];exact Heap.get?_push_size _ rfl
 have keep:∀b o,s.heap.get? b=some o->(((s.heap.push (seqObj "list" #[] 0)).update s.heap.objs.size (Obj.mapSeq (·++a.toArray))).push (seqObj "list" a.toArray 0)).get? b=some o:=fun b o q=>by
  have r:=Heap.lt_size q
  rw[Heap.get?_push_ne _ _ _ (by rw[z];exact Nat.ne_of_lt (Nat.lt_succ_of_lt r)),Heap.get?_update_ne _ _ _ _ (Nat.ne_of_lt r),Heap.get?_push_ne _ _ _ (Nat.ne_of_lt r)]
  exact q
 have hD:=I.hok.fresh (Nat.le_succ _)
 have fa:=I.fpOk (Nat.le_succ _) hD
 rw[z]
 refine wpAny_bind (wpAny_holding (wpAny_call_entry_kw slot_list_sort ⟨_,hoL,rfl⟩ entry_list_sort ?body (ksk_l1 _ _)))
 case body=>
  rw[ksk_t1]
  refine Zev (s:={s with heap:=((s.heap.push (seqObj "list" #[] 0)).update s.heap.objs.size (Obj.mapSeq (·++a.toArray))).push (seqObj "list" a.toArray 0)}) (kz:=ns.map g) (I.kept (t':=s.toks) keep) fa hoL hlz (by omega) (fun i v k hv hk=>?_) fun s' out c I' ho' ko=>⟨_,rfl,?_⟩
  ·rw[List.getElem?_map]at hk
   cases q:ns[i]? with
   |none=>rw[q]at hk;simp at hk
   |some n=>
    rw[q]at hk
    cases hk
    obtain⟨t,ht'⟩:=hi.get i n q
    rw[ht']at hv
    cases hv
    exact turn n t (List.mem_of_getElem? q)
  ·obtain⟨ps,hp,ho,hs⟩:=ko
   have d:∀p,p∈(ns.map g).zip a->p.1=g (numOf p.2)/\p.2∈a:=by
    rw[<-hi.nums,List.map_map,List.zip_map_left]
    intro p hp
    obtain⟨⟨u,v⟩,hq,rfl⟩:=List.mem_map.mp hp
    have h1:u=v/\u∈a:=mem_zip_self hq
    refine⟨?_,?_⟩
    ·show g (numOf u)=g (numOf v)
     rw[h1.1]
    ·rw[<-h1.1]
     exact h1.2
   have hI:=intsAre_map _ fun v hv=>by
    obtain⟨p,B,rfl⟩:=List.mem_map.mp hv
    exact hi.all _ (d p (hp.mem_iff.mp B)).2
   have hP:((ps.map Prod.snd).map numOf).Perm ns:=by
    have h1:=(hp.map Prod.snd).map numOf
    rw[List.map_snd_zip (by rw[List.length_map];omega),hi.nums]at h1
    exact h1
   have hO:((ps.map Prod.snd).map numOf).Pairwise (fun x y=>g x<=g y):=by
    rw[List.pairwise_map,List.pairwise_map]
    refine hs.imp_of_mem fun{p q} B hq' hr=>?_
    have hr':=hr
    rw[(d p (hp.mem_iff.mp B)).1,(d q (hp.mem_iff.mp hq')).1]at hr'
    exact hr'
   rw[<-ho]at hI hP hO
   have hl2:(out.toList.map numOf).length<=sizeLine:=by
    rw[hP.length_eq,sizeLine_eq];omega
   refine wpAny_pure ⟨_,rfl,done _ _ s' hD hP hO (I'.track fa (Nat.le_trans I.sz (Nat.le_succ _)) ⟨by rw[List.length_map];exact hl2,out.toList,c,Zai hI,?_⟩)⟩
   rw[Array.toArray_toList]
   exact ho'
end
theorem ZeI{X}{scope}{cl}{fr}{bs}{pins}{σ:St}{H}{s}{fv:List V}(B:Blk X scope cl fr bs)(I:Inv X pins σ H s)(hfv:bst bs σ=fv.map some):Zgy cl H s.heap fr fv:=by
 refine⟨?_,fun i y v e1 e2=>?_⟩
 ·have h:=congrArg List.length hfv
  unfold bst at h
  rw[List.length_map,List.length_map,B.bs.len]at h
  exact h
 ·have d:(bst bs σ)[i]?=some (some v):=by simp_all
  unfold bst at d
  rw[List.getElem?_map]at d
  cases q:bs[i]? with
  |none=>simp_all
  |some o=>
   rw[q]at d
   cases o with
   |none=>cases d
   |some j=>
    obtain⟨x,g,y2,e,p⟩:=B.bs.get q
    rw[e1]at g
    cases g
    have m:σ[j]?=some (some v):=by
     cases w:σ[j]? with
     |none=>simp_all
     |some o=>simp_all
    obtain⟨mx,_,lx⟩:=I.loc
    obtain⟨u,r,l⟩:=lx j y v y2 m (.inr (.inl e))
    rcases l with⟨l1,_⟩|⟨_,c,n,l3⟩
    ·have b:X.env.scope.names.lookup y=some _:=l1
     rw[e]at b
     cases b
    ·obtain⟨c',f⟩:=Option.isSome_iff_exists.mp (B.cl2 (y,.free) (PySem.mem_of_lookup p) rfl)
     have k:=B.c1 f
     rw[n]at k
     cases k
     exact⟨u,c,r,f,l3⟩
def Zfe(K:PySem.W.Frag)(P:Addr)(lpos:Pos)(qual:Str)(bs:List (Option Nat))(ta te:TE):TE:=fun σ H Q=>ta σ H fun x H1=>∃(l:Addr)(ns:List Int)(g:Int->Int)(fv:List V),x= .ref l/\SqL K H1 l (ns.map V.int)/\ns.length<64/\TabI P lpos qual H1/\bst bs σ=fv.map some/\
 ∀H2,Gr P lpos qual H1 H2->(∀n∈ns,te (some (.int n)::fv.map some) H2 fun v H3=>v= .int (g n)/\H3=H2)/\∀D ns',H2 D=none->List.Perm ns' ns->ns'.Pairwise (fun x y=>g x<=g y)->Q (.ref D) (upd H2 D (.lst (ns'.map V.int)))
theorem Gr.sqL{K}{P}{pos}{qual}{H H'}{l}{xs}(g:Gr P pos qual H H')(t:TabI P pos qual H)(h:SqL K H l xs):SqL K H' l xs:=by
 have np:∀o,H l=some o->(∀c,o≠.tbl c)->l≠P:=fun o e n z=>by
  subst z
  rcases t with t|⟨c',t,_⟩
  ·grind
  ·grind
 rcases h with(h|⟨o,h⟩)|h
 ·exact .inl (.inl (g.keep _ _ h (np _ h fun c z=>nomatch z)))
 ·exact .inl (.inr ⟨o,g.keep _ _ h (np _ h fun c z=>nomatch z)⟩)
 ·exact .inr h
def ZbF(R:V->Hp->Prop):List V->Hp->Prop
 |[x],H=>R x H
 |_,_=>False
theorem Jr{R}:∀{vs}{H},ZbF R vs H->∃x,vs=[x]/\R x H
 |[x],_,h=>⟨x,rfl,h⟩
 |[],_,h=>h.elim
 |_::_::_,_,h=>h.elim
theorem Zdv{X}{k}{scope}{cl}{fr}{bs}{x}{params}{body arg}{c P}{qual}{lpos kpos pos p}{ta te}
  (B:Blk X scope cl fr bs)(L:Lam x fr params scope)(hbm:BM X.mg X.base)(hcode:X.env.code= .ref c)(hC:PySem.W.codeHdIn X.K c P=true)(hq0:X.env.qual++"<lambda>"=qual)(hdef:defaultsOf params X.env=([],[]))
  (hr:Room (k+3) X.A)(hg:Gl X "sorted")(hm:X.mg "sorted"=none)(ha:PE X arg ta)
  (hbody:∀(f c':Addr)(A:Around)(s:Shared)(H:Hp),Room k (A.deeper (PySem.W.envX qual scope s.heap.objs.size f (.ref c') cl))->PE (Zeg X.prog X.w X.K X.mg X.base (x::fr) qual scope cl f c' A X.stack s H) body te)
  (hs:starEach [arg] X.env=[(false,eval arg X.env)]:=by rfl):
  PE X (.Call (.Name "sorted" p) [arg] [⟨some "key",.Lambda params body scope lpos,kpos⟩] pos) (Zfe X.K P lpos qual bs ta te):=by
 refine fun pins s σ H Q I h=>wpAny_Call_Name_kw (Yy I hg hm boot_sorted (callWith_kw (thn ((JV ha Za hs:PA X _ _) _ _ s σ H (ZbF fun x C=>∃(l:Addr)(E:List _)(g:Int->Int)(G:List V),x= .ref l/\SqL _ C l _/\E.length<64/\TabI P _ _ C/\bst bs σ=G.map _/\
  ∀d,Gr P _ qual C d->(∀n∈E,te (some (.int n)::G.map some) d fun v H3=>v= .int (g n)/\H3=d)/\∀D a,d D=none->List.Perm a E->a.Pairwise (fun x y=>g x<=g y)->Q (.ref D) (upd d D (.lst (a.map V.int)))) I h) fun us s1 xq1=>?_) (by rw[hs];rfl) (by rw[hs];rfl)))
 obtain⟨vs,C,Y,r1,M⟩:=xq1
 obtain⟨x1,rfl,M⟩:=Jr M
 obtain⟨u1,rfl,ru⟩:=vals1 r1
 obtain⟨l,E,g,G,rfl,hl,O,i,U,q⟩:=M
 cases ru
 refine wpAny_evalAll_cons (wpAny_bind (ZfM Y hbm B.clos hcode hC hq0 hdef i fun f c' pm T s2 d R gr hf S N hc=>wpAny_bind (wpAny_standAt (wpAny_pure (wpAny_evalAll_nil ?_)))))
 obtain⟨qk,qd⟩:=q d gr
 have F:=R.pins_of fun p hp=>by
  rcases List.mem_append.mp hp with z|z
  ·exact R.pin p (List.mem_append_right _ z)
  ·rw[List.mem_singleton.mp z]
   exact(Y.fpOk S N).pin1 R hf fun v z=>nomatch z
 refine Zdn (g:=g) F (gr.sqL i hl) O (fun n t hn Z pl b=>?_) fun D a Z hD hP hO b=>⟨.ref D,_,b.unpinned,rfl,qd D a hD hP hO⟩
 have j:=hr.in1.in1
 refine wpAny_call (codeAny_mono (Zhf (v:= .int n) L j b.env0.in1.in1 (b.pin (f,PySem.W.kla_obj "<lambda>" qual params body scope cl pm c' T) (List.mem_append_right _ (List.mem_append_left _ (List.mem_append_right _ (.head _))))).1 ((b.hok c' _ hc).1) (fun y z c h1 h2=>b.ok.inj y z c (B.c1 h1) (B.c1 h2)) B.cl2 (fun y c h=>⟨b.cell y c (B.c1 h),b.freeC y c (B.c1 h)⟩) (ZeI B b U) ⟨t,rfl⟩ (hbody f c' _ Z d (j.deeper _)) (qk n hn)) fun r s'' o=>?_)
 cases r with
 |error e=>exact o.elim
 |ok fl=>
  cases fl with
  |next=>exact False.elim o
  |brk=>exact False.elim o
  |cont=>exact False.elim o
  |ret u=>
   obtain⟨v',H',J,r',rfl,rfl⟩:=b.after o
   exact⟨r',J⟩
section
variable{X:Cx}
theorem ZO:CallR X (.builtin "isinstance") (fun xs H Q=>∃x n t b,xs=[x,.ty n]/\Zag X.K H x t/\PySem.W.kitOne X.K t (.type n)=some b/\Q (.bl b) H):=by
 intro _ s σ H xs _ Q I r h
 obtain⟨x,n,t,b,rfl,ty,e,q⟩:=h
 obtain⟨u,_,rfl,d,a⟩:=vals2 r
 cases a
 exact ZeD I d ty e fun c=>⟨.bl b,H,I.tok c,rfl,q⟩
theorem Zgo{bs}:∀{us},Vals (bs.map V.bl) us->PyProof.Rows.LSm.BoolsAre us bs:=by
 induction bs with
 |nil=>intro us r;cases r;exact .nil
 |cons b bs d=>
  intro us r
  cases r with
  |cons h t=>
   cases h
   exact .cons b (d t)
theorem Inv.big{pins}{σ:St}{H:Hp}{s:Shared}(I:Inv X pins σ H s):sysModules<s.heap.objs.size:=Nat.lt_trans (by decide) ((I.mod.glob.keeps I.bk).lt)
theorem Zgf{P}{w}{H}(h:Heap)(hb:sysModules<h.objs.size):ObjOk P w H (h.push {cls:= .type "dict",data:= .dict #[]}) h.objs.size (.dK []):=
 ⟨Nat.zero_le _,beq_eq_false_iff_ne.mpr (Ne.symm (Nat.ne_of_lt hb)),[],.nil,Heap.DictOf.new h⟩
def tDNewK:TE:=fun _ H Q=>∀p,H p=none->Q (.ref p) (upd H p (.dK []))
theorem ZcC{pos}:PE X (.Dict [] [] pos) tDNewK:=fun _ s σ H Q I h=>
 wpAny_Dict_empty ⟨.ref s.heap.objs.size,_,I.laid (fun _ _ q=>Heap.get?_push_of_some _ q) (Nat.le_refl _) (Zgf s.heap I.big),rfl,h _ (I.hok.fresh (Nat.le_refl _))⟩
inductive Zix(K:PySem.W.Frag)(x:V)(y:V)(H:Hp)(Q:VK):Prop
 |mk (a b ys:_) (_:x= .ref a) (_:y= .ref b) (_:SqT K H a []) (_:SqT K H b ys) (_:Q (.ref b) H)
theorem Zf9:OpR X (binaryOp .Add) (Zix X.K):=by
 intro _ s σ H x y v u Q I m t h
 obtain⟨a,b,_,rfl,rfl,l,o,q⟩:=h
 cases m
 cases t
 obtain⟨_,z,p,_⟩:=I.tuple l
 obtain⟨_,_,w,_⟩:=I.tuple o
 have k:=z.nil_iff.mpr rfl
 subst k
 obtain⟨⟨_,B,_,A⟩,g,i,n,j⟩:=id p
 obtain⟨⟨_,_,data2,_⟩,d,f,r,e⟩:=id w
 subst i j f e
 exact concat_meets ⟨_,g,rfl⟩ ⟨_,d,rfl⟩ noFill_tuple_add seq_tuple_add PySem.F.slot_tuple_add PySem.F.entry_tuple_add (PySem.F.args_tuple_add_2 _ _)
   (tuple_addW0 a b _ _ n r B _ A _ (by simp)) ⟨g,d,⟨.ref b,H,I,rfl,q⟩⟩
theorem Jj:∀{xs}{us},xs.length=us.length->(∀(i:Nat) x u,xs[i]?=some x->us[i]?=some u->RelV x u)->Vals xs us
 |[],[],_,_=> .nil
 |[],_::_,h,_=>by simp at h
 |_::_,[],h,_=>by simp at h
 |x::xs,u::us,h,k=> .cons (k 0 x u rfl rfl) (Jj (by simpa using h) fun i y w b a=>k (i+1) y w (by simpa using b) (by simpa using a))
theorem Zbq:CallR X (.type "range") (fun xs H Q=>∃j,xs=[.int j]/\∀p,H p=none->Q (.ref p) (upd H p (.rng 0 j))):=by
 intro _ s σ H xs _ Q I r h
 obtain⟨j,rfl,q⟩:=h
 obtain⟨u,rfl,a⟩:=vals1 r
 obtain⟨t,rfl⟩:=a
 exact call_range_1 ⟨.ref s.heap.objs.size,_,I.laid (o:= .rng 0 j) (fun _ _ q=>Heap.get?_push_of_some _ q) (Nat.le_refl _) ⟨_,_,_,Heap.get?_push_size _ rfl⟩,rfl,q _ (I.hok.fresh (Nat.le_refl _))⟩
def Y6(n:Nat):List Int:=(List.range n).map fun i:Nat=>i
theorem Ji(hc:X.calm=true):CallR X (.type "list") (fun xs H Q=>∃p,∃n:Nat,xs=[.ref p]/\H p=some (.rng 0 n)/\n<=1000000/\∀l,H l=none->Q (.ref l) (upd H l (.lst ((Y6 n).map V.int)))):=by
 intro _ s σ H xs _ Q I r h
 obtain⟨p,n,rfl,y,_,q⟩:=h
 obtain⟨u,rfl,v⟩:=vals1 r
 cases v
 obtain⟨t,_,_,e⟩:=(I.hok p _ y)
 refine call_list_range (n:=n) (I.ok.hd hc) e (small_one (by omega) (by omega) (by omega) (by omega)) (by rw[rangeSize_one];split<;>omega) (by omega) fun A _ a o D g B=>?_
 obtain⟨w,f⟩:=B
 have d:Vals ((Y6 n).map V.int) a.toList:=Jj (by simp[Y6,w]) fun i x u b z=>by
  obtain⟨m,rfl⟩:=f i u (show a[i]?=some u by simpa using z)
  simp only[Y6,List.map_map,List.getElem?_map]at b
  cases c:(List.range n)[i]? with
  |none=>simp_all
  |some j=>
   rw[c]at b
   have k:j=i:=by
    have:=List.getElem?_eq_some_iff.mp c
    simp_all
   subst k
   cases b
   exact⟨m,by simp⟩
 have C:((Y6 n).map V.int).length<=sizeLine:=by
  simp[Y6,List.length_map,List.length_range]
  rw[sizeLine_eq];omega
 refine⟨.ref s.heap.objs.size,_,I.laid D (Nat.le_refl _) (show ObjOk _ _ _ A _ (.lst ((Y6 n).map V.int))from⟨C,_,o,d,by rw[g]⟩),rfl,q _ (I.hok.fresh (Nat.le_refl _))⟩
theorem ZcZ(hc:X.calm=true):CallR X (.builtin "all") (fun xs H Q=>∃p,∃bs:List _,xs=[.ref p]/\SqL X.K H p (bs.map V.bl)/\Q (.bl (bs.all id)) H):=by
 intro _ s σ H xs _ Q I r h
 obtain⟨p,bs,rfl,n,q⟩:=h
 obtain⟨u,rfl,z⟩:=vals1 r
 cases z
 obtain⟨l,k,x,_⟩:=I.list n
 have g:=x.isList
 refine call_all_walk (wpAny_pyIter_list g ⟨_,_,_,_,_,_,fun i=>(bs[i]?).getD true,rfl,Walks.list (A:=X.A.in1) (I.ok.hd hc) _ p (Nat.ne_of_lt (show p<s.heap.objs.size by obtain⟨_,e,_⟩:=g;exact Heap.lt_size e)) _,
  ⟨⟨_,Heap.get?_push_size _ rfl,rfl,rfl⟩,g.push _⟩,fun i v _ _ _ w m=>?_,fun _ _ t=>?_⟩)
 ·obtain⟨b,e,rfl⟩:=(Zgo k).get i v (by simpa using w)
  simp[e,Option.getD_some]at m
  exact wpAny_truthy_bool m
 ·have e:((List.range l.toArray.size).all fun i=>(bs[i]?).getD true)=bs.all id:=by
   rw[List.size_toArray,(show l.length=bs.length by have:=k.length;simpa using this.symm),Bool.eq_iff_iff,List.all_eq_true,List.all_eq_true]
   constructor
   ·intro h b d
    obtain⟨i,j,rfl⟩:=List.getElem_of_mem d
    simp_all
   ·intro h i j
    have a:=List.mem_range.mp j
    simp[List.getElem?_eq_getElem a,Option.getD_some]
    exact h _ (List.getElem_mem a)
  rw[e]
  refine⟨.bl _,H,I.kept fun b o f=>t b o (fun y=>?_) (Heap.get?_push_of_some _ f),rfl,q⟩
  rw[List.mem_singleton.mp y]at f
  exact Nat.lt_irrefl _ (Heap.lt_size f)
theorem ZeO(hc:X.calm=true):CallR X (.builtin "max") (fun xs H Q=>∃p,∃ns:List _,xs=[.ref p]/\(SqL X.K H p (ns.map V.int)\/SqT X.K H p (ns.map V.int))/\0<ns.length/\∀M,M∈ns->(∀a∈ns,a<=M)->Q (.int M) H):=by
 intro L s σ H xs us Q I r h
 obtain⟨p,ns,rfl,C,hne,q⟩:=h
 obtain⟨u,rfl,rx⟩:=vals1 r
 cases rx
 have J:∀(c:List _)(it:Obj),Vals (ns.map V.int) c->(∀i v,c.toArray[i]?=some v->∃t,v=Value.int (ns.getD i 0) t)->∀v y B,c.toArray[argBest (fun i j=>decide (ns.getD i 0>ns.getD j 0)) (c.toArray.size-1)]?=some v->
   (∀b o,b ∉ [s.heap.objs.size]->(s.heap.push it).get? b=some o->y.get? b=some o)->EP X L σ Q v {s with heap:=y,toks:=B}:=by
  intro c it k D v y B G F
  obtain⟨t,rfl⟩:=D _ _ G
  have m:c.length=ns.length:=by have:=k.length;simpa using this.symm
  obtain⟨h1,h2⟩:=argBest_gt (fun i=>ns.getD i 0) (c.toArray.size-1)
  rw[List.size_toArray,m]at h1 h2
  rw[List.size_toArray,m]
  refine⟨.int _,H,I.kept fun b o z=>F b o (fun hm=>?_) (Heap.get?_push_of_some _ z),⟨t,rfl⟩,q _ ?_ fun a ha=>?_⟩
  ·rw[List.mem_singleton.mp hm]at z
   exact Nat.lt_irrefl _ (Heap.lt_size z)
  ·have g:argBest (fun i j=>decide (ns.getD i 0>ns.getD j 0)) (ns.length-1)<ns.length:=by omega
   rw[List.getD_eq_getElem?_getD,List.getElem?_eq_getElem g]
   exact List.getElem_mem g
  ·obtain⟨j,hj,rfl⟩:=List.getElem_of_mem ha
   have:=h2 j (by omega)
   rw[List.getD_eq_getElem?_getD,List.getElem?_eq_getElem hj]at this
   exact this
 have d:∀c:List Value,Vals (ns.map V.int) c->∀i v,c.toArray[i]?=some v->∃t,v=Value.int (ns.getD i 0) t:=by
  intro c k i v e
  have e':c[i]?=some v:=by simpa using e
  have m:c.length=ns.length:=by have:=k.length;simpa using this.symm
  have hi:i<ns.length:=by grind
  obtain⟨u,z,r2⟩:=k.get (i:=i) (x:= .int ns[i]) (by rw[List.getElem?_map,List.getElem?_eq_getElem hi];rfl)
  rw[e']at z
  cases z
  obtain⟨t,rfl⟩:=r2
  exact⟨t,by simp_all⟩
 have N:∀c:List Value,Vals (ns.map V.int) c->0<c.toArray.size:=fun c k=>by
  have:=k.length
  rw[List.length_map]at this
  rw[List.size_toArray];omega
 rcases C with C|C
 ·obtain⟨c,k,O,hz⟩:=I.list C
  have w:=O.isList
  have g:p<s.heap.objs.size:=by obtain⟨_,e,_⟩:=w;exact Heap.lt_size e
  refine call_max_walk (wpAny_pyIter_list w ⟨s.heap.objs.size,[s.heap.objs.size,p],[s.heap.objs.size],_,_,_,_,rfl,Walks.list (A:=X.A.in1) (I.ok.hd hc) _ p (Nat.ne_of_lt g) c.toArray,⟨⟨_,Heap.get?_push_size _ rfl,rfl,rfl⟩,w.push _⟩,fun b E=>?_,N c k,CmpOf.ints_gt (fun i=>ns.getD i 0) (d c k),fun v y B G F=>J c _ k (d c k) v y B G F⟩)
  rw[Heap.size_push]
  simp[List.mem_cons,List.not_mem_nil,or_false]at E
  rcases E with rfl|rfl
  ·exact Nat.lt_succ_self _
  ·exact Nat.lt_succ_of_lt g
 ·obtain⟨c,k,O,hz⟩:=I.tuple C
  have w:=O
  have g:p<s.heap.objs.size:=by obtain⟨_,e,_⟩:=w;exact Heap.lt_size e
  refine call_max_walk (wpAny_pyIter_tuple w ⟨s.heap.objs.size,[s.heap.objs.size,p],[s.heap.objs.size],_,_,_,_,rfl,Walks.tuple (A:=X.A.in1) (I.ok.hd hc) _ p (Nat.ne_of_lt g) c.toArray,⟨⟨_,Heap.get?_push_size _ rfl,rfl,rfl⟩,w.push _⟩,fun b E=>?_,N c k,CmpOf.ints_gt (fun i=>ns.getD i 0) (d c k),fun v y B G F=>J c _ k (d c k) v y B G F⟩)
  rw[Heap.size_push]
  simp[List.mem_cons,List.not_mem_nil,or_false]at E
  rcases E with rfl|rfl
  ·exact Nat.lt_succ_self _
  ·exact Nat.lt_succ_of_lt g
theorem Yw:fillsNumberSlot (.type "tuple") "mul"=pure false:=
 PySem.fillsNumberSlot_seq F.slot_tuple_mul.lookup (by decide+kernel) F.slot_tuple_rmul.lookup (by decide+kernel)
theorem Jc:seqRepeat? (.type "tuple")=pure (some (.builtin "tuple.__mul__")):=by
 unfold seqRepeat?
 rw[PySem.seqSlot_of (name:="__mul__") F.slot_tuple_mul.lookup (by decide+kernel),PySem.seqSlot_of (name:="__rmul__") F.slot_tuple_rmul.lookup (by decide+kernel)]
 rfl
theorem YC(a)(t)(l)(items:Array _)(n)(dd:Option _)(sl:Array (Option Value)):
  Meets (Builtin.«int.__rmul__» ⟨[.int a t,.ref l],[]⟩) (fun _ R s=>s.heap.get? l=some {cls:= .type "tuple",dict:=dd,data:= .seq items n,slots:=sl}/\R (.ok (.ret Value.notImplemented)) s):=
 .of_wp fun _ w A R s h=>by obtain⟨_,g,d,_,os⟩:=s;obtain⟨_,h⟩:=h;wp_walk;exact⟨_,rfl,h⟩
theorem Zdj(l)(items:Array _)(n:Nat)(dd:Option _)(sl:Array (Option Value))(x:Int)(u:Tok)(hc0:¬(decide (x< -(2^63))||decide (x≥2^63))=true)(hc1:¬(items.isEmpty||x==1)=true)(hc2:¬(decide (x<=0)||items.isEmpty)=true)
  (hc3:¬(items.size:Int)*x>(2^63-1)/8)(hc4:¬Builtin.Tuple.tupleTooMany ((items.size:Int)*x)=true)(hs0:(List.foldl (fun x1 x2=>x1++x2) #[] (List.replicate x.toNat items)).size<=sizeLine):
  Meets (Builtin.«tuple.__mul__» ⟨[.ref l,.int x u],[]⟩) (fun _ R s=>s.heap.get? l=some {cls:= .type "tuple",dict:=dd,data:= .seq items n,slots:=sl}/\R (.ok (.ret (Value.ref s.heap.objs.size))) {s with heap:=s.heap.push {cls:=Value.type "tuple",data:=Data.seq (List.foldl (fun x1 x2=>x1++x2) #[] (List.replicate x.toNat items))},toks:=s.toks}):=
 .of_wp fun _ w A R s h=>by
  obtain⟨_,g,d,_,os⟩:=s;obtain⟨a,h⟩:=h;wp_walk using wpAny_loadPart' a
  rw[if_neg hc0]
  wp_walk using wpAny_loadPart' a
  rw[if_neg hc3]
  wp_walk using wpAny_loadPart' a
  exact⟨_,rfl,h⟩
inductive ZjG(K:PySem.W.Frag)(x:V)(y:V)(H:Hp)(Q:VK):Prop
 |mk (l k xs:_) (_:x= .ref l) (_:y= .int k) (_:SqT K H l xs) (_:1<k) (_:k<2^62) (_:xs≠[]) (_:xs.length*k.toNat<=sizeLine) (_:∀p,H p=none->Q (.ref p) (upd H p (.tup (List.replicate k.toNat xs).flatten)))
theorem op_repT:OpR X (binaryOp .Mult) (ZjG X.K):=by
 intro pins s σ H x y v u Q I rx ry h
 obtain⟨l,k,xs,rfl,rfl,hS,h1,h2,hne,hz,q⟩:=h
 cases rx
 obtain⟨t,rfl⟩:=ry
 obtain⟨a,r,pl,_⟩:=I.tuple hS
 have hl:=r.length
 obtain⟨⟨cls,dd,_,i⟩,d,hc,n,hd⟩:=id pl
 subst hc hd
 have e:a.toArray.size*k.toNat<=sizeLine:=by grind
 have f:List.foldl (fun x1 x2=>x1++x2) #[] (List.replicate k.toNat a.toArray)=(List.replicate k.toNat a).flatten.toArray:=by
  have:=foldl_rep a k.toNat []
  grind
 have g:a.toArray.size*k=((a.toArray.size*k.toNat:Nat)):=by
  grind
 have _:sizeLine<2^60:=by rw[sizeLine_eq];decide
 have lenR:(List.replicate k.toNat a).flatten.length<=sizeLine:=by rw[len_rep,Nat.mul_comm];simpa using e
 refine wpAny_binaryOp_repeat_ref (by decide) ⟨_,d,rfl⟩ (fun s'=>typeIs_int s' k t) Yw F.fills_int_mul F.slot_int_rmul Jc F.slot_int_index.lookup
  (call_meets F.slot_int_rmul (typeIs_int s k t) F.entry_int_rmul (F.args_int_rmul_2 _ _) (YC k t l a.toArray n dd i)
   ⟨d,rfl,⟨_,d,rfl⟩,call_meets F.slot_tuple_mul ⟨_,d,rfl⟩ F.entry_tuple_mul (F.args_tuple_mul_2 _ _) (Zdj l a.toArray n dd i k t ?c0 ?c1 ?c2 ?c3 ?c4 ?c5) ⟨d,?_⟩⟩)
 case c0=>simp;omega
 case c1=>grind
 case c2=>grind
 case c3=>rw[g];omega
 case c4=>rw[g];exact fun z=>absurd (of_decide_eq_true z) (Int.not_lt.mpr (Int.ofNat_le.mpr e))
 case c5=>grind
 rw[f]
 refine⟨.ref _,_,I.laid (t':=s.toks) (o:= .tup (List.replicate k.toNat xs).flatten) (fun b ob q=>Heap.get?_push_of_some _ q) (Nat.le_refl _) ?_,rfl,q _ I.fresh⟩
 exact⟨by simp_all,_,r.rep k.toNat,IsTup.new _ _⟩
end
theorem Zz{H}{d}{o}(h:H d=Option.none):Same H (upd H d o):=fun b u e=>by rw[Zf (Zk e h)];exact e
theorem JI{n:Nat}(h:Nat.ble n 1000=true):n<=sizeLine:=by
 have:=Nat.le_of_ble_eq_true h
 rw[sizeLine_eq];omega
theorem YI{n}(h:n<=100000):n<=sizeLine:=by rw[sizeLine_eq];omega
def ZV:Expr->Bool
 | .Starred _ _=>false
 |_=>true
theorem Yb{e}{es}{env}(h:ZV e=true):starEach (e::es) env=(false,eval e env)::starEach es env:=by
 cases e<;>first|rfl|cases h
theorem Jo{env}{pos}:∀{es:List _},es.all ZV=true->(backTo pos (starEach es env)).any (·.1)=false
 |[],_=>rfl
 |e::es,h=>by
  have a:ZV e=true/\es.all ZV=true:=by grind
  rw[Yb a.1]
  have b:=Jo (env:=env) (pos:=pos) a.2
  unfold backTo at b⊢
  simp_all
theorem Zc{X}{e}{es}{te}{t}(ha:PE X e te)(hr:PA X es t)(hs:ZV e=true:=by rfl):PA X (e::es) (ZbA te t):=JV ha hr (Yb hs)
structure FnE(P:Program)(w:World)(K:PySem.W.Frag)(mg:Str->Option Value)(base:Heap)(x:Str)(ps:List Str)(k:Nat)(sp:Sp):Prop where
 ex:∃f fd,FnOk P w K mg base CX0 k f fd ps sp/\mg x=some (.ref f)/\PySem.W.keepIn K (.ref f)=true/\Binds K fd ps []
theorem FnE.mono{P}{w}{K}{mg}{base}{x}{ps}{j k}{sp:Sp}(F:FnE P w K mg base x ps j sp)(h:j<=k):FnE P w K mg base x ps k sp:=
 let⟨f,c,a,b⟩:=F.ex;⟨f,c,a.mono h,b⟩
theorem ZjL{X}{x}{ps:List _}{k}{sp}{e}{es:List _}{t}{p pos:Pos}(F:FnE X.prog X.w X.K X.mg X.base x ps k sp)(hr:Room k X.A)(ha:PA X (e::es) t)(hg:Gl X x:=by rfl)
  (hdb:(x==("__debug__":Str))=false:=by decide)(he:starEach (e::es) X.env=(false,eval e X.env)::starEach es X.env:=by rfl)(hpl:(backTo pos (starEach es X.env)).any (·.1)=false:=by rfl):
  PE X (.Call (.Name x p) (e::es) [] pos) (ZbB sp [] E0 t):=
 let⟨_,_,a,b,c,d⟩:=F.ex;ZdT a hr hg b c d .nil ZhO ha hdb he hpl
theorem Zw{X}{x}{ps}{k}{sp}{e}{es}{t}{p pos}(F:FnE X.prog X.w X.K X.mg X.base x ps k sp)(hr:Room k X.A)(ha:PA X (e::es) t)(hg:Gl X x:=by rfl)
  (hdb:(x==("__debug__":Str))=false:=by decide)(he:ZV e=true:=by rfl)(hpl:es.all ZV=true:=by rfl):PE X (.Call (.Name x p) (e::es) [] pos) (ZbB sp [] E0 t):=
 ZjL F hr ha hg hdb (Yb he) (Jo hpl)
def Zjr(t:TA):TE:=fun σ H Q=>t σ H fun xs H1=>Nat.ble xs.length 1000=true/\∀p H',Same H1 H'->H' p=some (.tup xs)->Q (.ref p) H'
def Zjz(t:TA):TE:=fun σ H Q=>t σ H fun xs H1=>Nat.ble xs.length 1000=true/\∀p H',Same H1 H'->H' p=some (.lst xs)->Q (.ref p) H'
section
variable{X:Cx}{e:Expr}{es:List Expr}{te:TE}{t:TA}{pos:Pos}
theorem OpR.weak{f}{r r'}(h:OpR X f r)(k:∀x y H Q,r' x y H Q->r x y H Q):OpR X f r':=fun _ s σ H x y v u Q I b a q=>h _ s σ H x y v u Q I b a (k _ _ _ _ q)
theorem CallR.weak{f}{r r'}(h:CallR X f r)(k:∀xs H Q,r' xs H Q->r xs H Q):CallR X f r':=fun _ s σ H xs a Q I r q=>h _ s σ H xs a Q I r (k _ _ _ q)
theorem Z5{x1}(h:PA X es t):PE X (.Tuple es x1 pos) (Zjr t):=by
 refine fun a s σ H Q I g=>wpAny_Tuple_spliced (thn (h pos a s σ H _ I g) fun f d⟨_,_,c,r,z,q⟩=>⟨by rw[<-r.length];exact JI z,.ref d.heap.objs.size,_,c.laid (fun b u e=>Heap.get?_push_of_some _ e) (Nat.le_refl _) ?_,rfl,q _ _ (Zz (c.hok.fresh (Nat.le_refl _))) Zd⟩)
 exact⟨JI z,f,r,⟨_,Heap.get?_push_size _ rfl,rfl,_,rfl⟩⟩
theorem Ye(h:PA X es t):PE X (.List es pos) (Zjz t):=by
 refine fun a s σ H Q I g=>wpAny_List_spliced (thn (h pos a s σ H _ I g) fun f d⟨_,_,c,r,z,q⟩=>⟨by rw[<-r.length];exact JI z,.ref d.heap.objs.size,_,c.laid (fun b u e=>Heap.get?_push_of_some _ e) (Nat.le_refl _) ?_,rfl,q _ _ (Zz (c.hok.fresh (Nat.le_refl _))) Zd⟩)
 exact⟨JI z,f,0,r,Heap.get?_push_size _ rfl⟩
inductive rCatTS(x:V)(y:V)(H:Hp)(Q:VK):Prop
 |mk (a b xs ys:_) (_:x= .ref a) (_:y= .ref b) (_:H a=some (.tup xs)) (_:H b=some (.tup ys)) (_:xs.length+ys.length<=100000) (_:∀p H',Same H H'->H' p=some (.tup (xs++ys))->Q (.ref p) H')
theorem ZcD:OpR X (binaryOp .Add) rCatTS:=by
 intro _ s σ H x y v u Q I i d h
 obtain⟨a,b,e,g,rfl,rfl,j,c,k,q⟩:=h
 by_cases f:e=[]
 ·subst f
  exact Zf9 _ s σ H _ _ v u Q I i d ⟨a,b,g,rfl,rfl,SqT.of j,SqT.of c,q b H (Same.refl H) c⟩
 ·refine ZgT _ s σ H _ _ v u Q I i d ⟨a,b,e,g,rfl,rfl,SqT.of j,SqT.of c,f,YI k,fun z=>?_,fun _ p l=>q p _ (Zz l) Zd⟩
  subst z
  exact q a H (Same.refl H) (by grind)
inductive rCatLS(x:V)(y:V)(H:Hp)(Q:VK):Prop
 |mk (a b xs ys:_) (_:x= .ref a) (_:y= .ref b) (_:H a=some (.lst xs)) (_:H b=some (.lst ys)) (_:xs.length+ys.length<=100000) (_:∀p H',Same H H'->H' p=some (.lst (xs++ys))->Q (.ref p) H')
theorem JX:OpR X (binaryOp .Add) rCatLS:=op_cat.weak fun x y H Q⟨a,b,g,f,e,d,i,h,z,q⟩=>⟨a,b,g,f,e,d,i,h,YI z,fun p c=>q p _ (Zz c) Zd⟩
inductive rRepTS(x:V)(y:V)(H:Hp)(Q:VK):Prop
 |mk (l k xs:_) (_:x= .ref l) (_:y= .int k) (_:H l=some (.tup xs)) (_:1<k) (_:k<100000) (_:xs≠[]) (_:xs.length*k.toNat<=100000) (_:∀p H',Same H H'->H' p=some (.tup (List.replicate k.toNat xs).flatten)->Q (.ref p) H')
theorem Zf6:OpR X (binaryOp .Mult) rRepTS:=op_repT.weak fun x y H Q⟨l,k,e,d,c,h,b,_,a,z,q⟩=>⟨l,k,e,d,c,SqT.of h,b,by omega,a,YI z,fun p f=>q p _ (Zz f) Zd⟩
theorem Z7:CallR X (.type "tuple") (fun xs H Q=>∃p ys,xs=[.ref p]/\(H p=some (.lst ys)\/H p=some (.tup ys))/\∀l H',Same H H'->H' l=some (.tup ys)->Q (.ref l) H'):=
 call_tuple_of.weak fun xs H Q⟨p,ys,e,h,q⟩=>⟨p,ys,e,by
  rcases h with h|h
  ·exact .inl ⟨SqL.of h,fun l a=>q l _ (Zz a) Zd⟩
  ·exact .inr ⟨SqT.of h,q p H (Same.refl H) h⟩⟩
end
def JB(t:TE):Prop:=∀σ H(Q Q'),(∀v H',Q v H'->Q' v H')->t σ H Q->t σ H Q'
theorem Z9(i):JB (Ja i):=fun σ H Q _ k⟨v,e,q⟩=>⟨v,e,k _ _ q⟩
theorem Zar(v):JB (tC v):=fun σ H Q _ k q=>k _ _ q
theorem YU{K}{ta tb}(ha:JB ta)(hb:JB tb):JB (tOp (Zfr K) ta tb):=fun σ H Q _ k q=>ha σ H _ _ (fun x c q=>hb σ c _ _ (fun y _⟨p,d,i,v,b,e,h,a,q⟩=>⟨p,d,i,v,b,e,h,a,k _ _ q⟩) q) q
def Zj0(K:PySem.W.Frag)(bs:List (Option Nat))(tl:TE)(g:TG)(tt:TT)(te:TE):TE:=fun σ H Q=>tl σ H fun x H1=>∃a xs,x= .ref a/\SqT K H1 a xs/\xs.length<=100000/\∃Pv:Nat->List V->St->Hp->Prop,Pv 0 [] (bst bs σ) H1/\
 (∀i ys σ H,i<=xs.length->Pv i ys σ H->SqT K H a xs/\ys.length<=i)/\
 (∀i x ys σ H,xs[i]?=some x->Pv i ys σ H->g x σ H fun σ3 H3=>tt σ3 H3 fun b H4=>if b=true then te σ3 H4 fun v H5=>Pv (i+1) (ys++[v]) σ3 H5 else Pv (i+1) ys σ3 H4)/\
 ∀ys σ H,Pv xs.length ys σ H->∀p H',Same H H'->H' p=some (.lst ys)->Q (.ref p) H'
theorem Zch{X}{scope}{cl}{N}{bs}{tg iter elt}{ifs}{pos}{tl}{g}{tt}{te}(B:Blk X scope cl N bs)(hc:X.calm=true)
  (hl:PE X iter tl)(hm:JB tl)(hg:∀C fp s H,PG (ZA X scope cl C N fp s H) tg g) (ht:∀C fp s H,PTs (ZA X scope cl C N fp s H) ifs tt) (he:∀C fp s H,PE (ZA X scope cl C N fp s H) elt te)
  (hs:∀x,foldedSetIterable iter X.env x=pure x:=by intro _;rfl):PE X (.ListComp elt [⟨tg,iter,ifs,0⟩] scope pos) (Zj0 X.K bs tl g tt te):=by
 refine fun _ s σ H Q I h=>@ZdS X _ cl N bs tg _ _ _ _ _ g tt te B hc (@Yu X _ _ _ hl) hg ht he hs _ s σ H Q I (hm σ H _ _ (fun x _ h=>?_) h)
 obtain⟨a,i,e,j,d,k,o,f,l,n⟩:=h
 exact⟨a,e,⟨i,j⟩,ZfL k (YI d) o f l fun m σ H c p b=>n m σ H c p _ (Zz b) Zd⟩
def Zah(t:TA):Prop:=∀σ H(Q Q'),(∀v H',Q v H'->Q' v H')->t σ H Q->t σ H Q'
theorem ZY:Zah tNil:=fun σ H Q _ k q=>k _ _ q
theorem Z2{te}{tr}(ha:JB te)(hr:Zah tr):Zah (ZbA te tr):=fun σ H Q _ k q=>ha σ H _ _ (fun x a q=>hr σ a _ _ (fun _ _ q=>k _ _ q) q) q
theorem ZcM{lo}{n}{g:TG}{tt:TT}{te:TE}{σ}{H}{Q:VK}(Pv:Nat->List V->St->Hp->Prop)(hz:n<=sizeLine)(h0:Pv 0 [] σ H)(hl:∀i ys σ H,i<=n->Pv i ys σ H->ys.length<=i)
  (hs:∀i ys σ H,i<n->Pv i ys σ H->g (.int (lo+i)) σ H fun σ3 H3=>tt σ3 H3 fun b H4=>if b=true then te σ3 H4 fun v H5=>Pv (i+1) (ys++[v]) σ3 H5 else Pv (i+1) ys σ3 H4)
  (hd:∀ys σ H,Pv n ys σ H->∀p,H p=none->Q (.ref p) (upd H p (.lst ys))):
  ∃W:Nat->Nat->List V->St->Hp->Prop,(∃m,W 0 m [] σ H)/\∀i m ys σ' H',W i m ys σ' H'->
   ((Itr lo n).stop i H'/\ys.length<=sizeLine/\∀p,H' p=none->Q (.ref p) (upd H' p (.lst ys)))\/
   ((Itr lo n).go i H'/\ys.length<sizeLine/\∃N:List V->St->Hp->Prop,(∀zs σ2 H2,N zs σ2 H2->∃m',m'<m/\W (i+1) m' zs σ2 H2)/\∀x H2,(Itr lo n).yld i H' x H2->g x σ' H2 fun σ3 H3=>tt σ3 H3 fun b H4=>
    if b=true then te σ3 H4 fun v H5=>N (ys++[v]) σ3 H5 else N ys σ3 H4):=by
 refine⟨fun i m ys σ H=>m=n-i/\i<=n/\Pv i ys σ H,⟨n,by simp,Nat.zero_le _,h0⟩,?_⟩
 rintro i m ys σ H ⟨rfl,c,p⟩
 have _:=hl i ys σ H c p
 by_cases a:i<n
 ·refine .inr ⟨a,by omega,_,fun zs σ' H' d=>⟨_,by omega,rfl,a,d⟩,fun x H' y=>?_⟩
  obtain⟨e,y⟩:=y
  grind
 ·have e:i=n:=by omega
  subst e
  exact .inl ⟨Nat.le_refl _,by omega,hd ys σ H p⟩
def Zj1(bs:List (Option Nat))(ta:TA)(g:TG)(tt:TT)(te:TE):TE:=fun σ H Q=>ta σ H fun vs H1=>∃n:Nat,vs=[.int n]/\n<=100000/\∃Pv:Nat->List V->St->Hp->Prop,Pv 0 [] (bst bs σ) H1/\
 (∀i ys σ H,i<=n->Pv i ys σ H->ys.length<=i)/\
 (∀i ys σ H,i<n->Pv i ys σ H->g (.int (0+i)) σ H fun σ3 H3=>tt σ3 H3 fun b H4=>if b=true then te σ3 H4 fun v H5=>Pv (i+1) (ys++[v]) σ3 H5 else Pv (i+1) ys σ3 H4)/\
 ∀ys σ H,Pv n ys σ H->∀p H',Same H H'->H' p=some (.lst ys)->Q (.ref p) H'
theorem ZaU{X}{scope}{cl}{N}{bs}{tg a elt}{ifs}{p pos' pos}{ta}{g}{tt}{te}(B:Blk X scope cl N bs)(hc:X.calm=true)
  (hgl:Gl X "range")(hmr:X.mg "range"=none)(ha:PA X [a] ta)(hm:Zah ta)(hpl:ZV a=true)(hg:∀C fp s H,PG (ZA X scope cl C N fp s H) tg g) (ht:∀C fp s H,PTs (ZA X scope cl C N fp s H) ifs tt) (he:∀C fp s H,PE (ZA X scope cl C N fp s H) elt te)
  (hs:∀x,foldedSetIterable (.Call (.Name "range" p) [a] [] pos') X.env x=pure x:=by intro _;rfl):PE X (.ListComp elt [⟨tg,.Call (.Name "range" p) [a] [] pos',ifs,0⟩] scope pos) (Zj1 bs ta g tt te):=by
 refine fun _ s σ H Q I h=>@ZdS X _ cl N bs tg _ _ _ _ _ g tt te B hc (@Yi X tg a ta p pos' hgl hmr ha (Yb hpl)) hg ht he hs _ s σ H Q I (hm σ H _ _ (fun _ _ h=>?_) h)
 obtain⟨n,e,i,d,f,c,l,j⟩:=h
 exact⟨n,e,by omega,by omega,ZcM d (YI i) f c l fun k σ H m p b=>j k σ H m p _ (Zz b) Zd⟩
section
variable{X:Cx}
inductive ZjH(K:PySem.W.Frag)(xs:List V)(H:Hp)(Q:VK):Prop
 |mk (p:_) (ns:List Int) (_:xs=[.ref p]) (_:(SqL K H p (ns.map V.int)\/SqT K H p (ns.map V.int))) (_:0<ns.length) (_:∀M,M∈ns->(∀a∈ns,M<=a)->Q (.int M) H)
theorem ZeM(hc:X.calm=true):CallR X (.builtin "min") (ZjH X.K):=by
 intro pins s σ H xs us Q I r h
 obtain⟨p,g,rfl,hp,hne,q⟩:=h
 obtain⟨u,rfl,rx⟩:=vals1 r
 cases rx
 have fin:∀(c)(it),Vals (g.map V.int) c->(∀i v,c.toArray[i]?=some v->∃t,v=Value.int (g.getD i 0) t)->∀v h' tk,c.toArray[argBest (fun i j=>decide (g.getD i 0<g.getD j 0)) (c.toArray.size-1)]?=some v->
   (∀b o,b ∉ [s.heap.objs.size]->(s.heap.push it).get? b=some o->h'.get? b=some o)->EP X pins σ Q v {s with heap:=h',toks:=tk}:=by
  intro c it k hval v h' tk hP hk
  obtain⟨t,rfl⟩:=hval _ _ hP
  have hlen:c.length=g.length:=by have:=k.length;simpa using this.symm
  obtain⟨h1,h2⟩:=argBest_lt (fun i=>g.getD i 0) (c.toArray.size-1)
  rw[List.size_toArray,hlen]at h1 h2
  rw[List.size_toArray,hlen]
  refine⟨.int _,H,I.kept fun b o e2=>hk b o (fun hm=>?_) (Heap.get?_push_of_some _ e2),⟨t,rfl⟩,q _ ?_ fun a ha=>?_⟩
  ·rw[List.mem_singleton.mp hm]at e2
   exact Nat.lt_irrefl _ (Heap.lt_size e2)
  ·have m:argBest (fun i j=>decide (g.getD i 0<g.getD j 0)) (g.length-1)<g.length:=by omega
   rw[List.getD_eq_getElem?_getD,List.getElem?_eq_getElem _]
   exact List.getElem_mem m
  ·obtain⟨j,hj,rfl⟩:=List.getElem_of_mem ha
   have:=h2 j (by omega)
   rw[List.getD_eq_getElem?_getD (i:=j),List.getElem?_eq_getElem hj]at this
   exact this
 have d:∀c:List _,Vals (g.map V.int) c->∀i v,c.toArray[i]?=some v->∃t,v=Value.int (g.getD i 0) t:=by
  intro c k i v e
  have e':c[i]?=some v:=by simpa using e
  have hlen:c.length=g.length:=by have:=k.length;simpa using this.symm
  have hi:i<g.length:=by grind
  obtain⟨u,e2,r2⟩:=k.get (by rw[List.getElem?_map,List.getElem?_eq_getElem hi];rfl)
  rw[e']at e2
  cases e2
  obtain⟨t,rfl⟩:=r2
  exact⟨t,by simp_all⟩
 have pos:∀c:List Value,Vals (g.map V.int) c->0<c.toArray.size:=fun c k=>by
  have:=k.length
  rw[List.length_map]at this
  rw[List.size_toArray];omega
 rcases hp with hp|hp
 ·obtain⟨c,k,pl,hz⟩:=I.list hp
  have hl:=pl.isList
  have m:p<s.heap.objs.size:=by obtain⟨_,e,_⟩:=hl;exact Heap.lt_size e
  refine call_min_walk (wpAny_pyIter_list hl ⟨s.heap.objs.size,[s.heap.objs.size,p],[s.heap.objs.size],_,_,_,_,rfl,Walks.list (A:=X.A.in1) (I.ok.hd hc) _ p (Nat.ne_of_lt m) c.toArray,⟨⟨_,Heap.get?_push_size _ rfl,rfl,rfl⟩,hl.push _⟩,fun b hb=>?_,pos c k,CmpOf.ints_lt (fun i=>g.getD i 0) (d c k),fun v h' tk hP hk=>fin c _ k (d c k) v h' tk hP hk⟩)
  rw[Heap.size_push]
  simp[List.mem_cons,List.not_mem_nil,or_false]at hb
  rcases hb with rfl|rfl
  ·exact Nat.lt_succ_self _
  ·grind
 ·obtain⟨c,k,pl,hz⟩:=I.tuple hp
  have hl:=pl
  have m:p<s.heap.objs.size:=by obtain⟨_,e,_⟩:=hl;exact Heap.lt_size e
  refine call_min_walk (wpAny_pyIter_tuple hl ⟨s.heap.objs.size,[s.heap.objs.size,p],[s.heap.objs.size],_,_,_,_,rfl,Walks.tuple (A:=X.A.in1) (I.ok.hd hc) _ p (Nat.ne_of_lt m) c.toArray,⟨⟨_,Heap.get?_push_size _ rfl,rfl,rfl⟩,hl.push _⟩,fun b hb=>?_,pos c k,CmpOf.ints_lt (fun i=>g.getD i 0) (d c k),fun v h' tk hP hk=>fin c _ k (d c k) v h' tk hP hk⟩)
  rw[Heap.size_push]
  simp[List.mem_cons,List.not_mem_nil,or_false]at hb
  rcases hb with rfl|rfl
  ·exact Nat.lt_succ_self _
  ·grind
end
end L2
namespace PySem
open Sem (wp)
open AutoSeq1 (wpAny_loadPart')
section
variable{prog:Program}{w:World}{A:Around}{E:Value->Shared->Prop}{s:Shared}
theorem ZJ{it l}{i}{items}{x}{Q}(hit:s.heap.IsTupleIter it l i)
  (hl:s.heap.IsTuple l items)(hx:items[i]?=some x)
  (hQ:∀h',h'.IsTupleIter it l (i+1)->Heap.SameBut it s.heap h'->Q x {s with heap:=h'}):
  wpAny (model prog w) A (Builtin.SmallTypes.nextOf (.ref it)) Q E s:=by
 obtain⟨o,b,e,a⟩:=id hit
 obtain⟨_,d,_,_,c⟩:=hl
 refine wpAny_bind (wpAny_callSpecial?_slot hit.typeIs F.slot_tuple_iterator_next
  (wpAny_call_entry F.slot_tuple_iterator_next hit.typeIs F.entry_tuple_iterator_next ?_ (F.args_tuple_iterator_next_1 _)))
 show wpAny _ _ (field (.ref it) 0>>=_) _ _ s
 refine wpAny_bind (wpAny_field b a (x:= .ref l) rfl (wpAny_bind (wpAny_field b a rfl (wpAny_bind (wpAny_seqItems d c ?_)))))
 simp[Int.toNat_natCast,hx]
 exact wpAny_bind (wpAny_setField b a (by simp) (wpAny_pure ⟨x,rfl,wpAny_pure (hQ _ ⟨_,Heap.get?_update_self _ b (Obj.isFreed_of_fields (Obj.data_mapFields a _)),(Obj.cls_mapFields ..).trans e,by
  rw[Obj.data_mapFields a];simp[rawInt]⟩ (Heap.SameBut.update ..))⟩))
theorem ZW{it l}{i}{items}{Q}(hh:A.handled=none)
  (hit:s.heap.IsTupleIter it l i)(hl:s.heap.IsTuple l items)(hx:items[i]?=none)
  (hE:∀h' e,Heap.ExtBut it s.heap h'->(∃o,h'.get? e=some o/\o.cls= .type "StopIteration")->E (.ref e) {s with heap:=h'}):
  wpAny (model prog w) A (Builtin.SmallTypes.nextOf (.ref it)) Q E s:=by
 obtain⟨o,c,_,b⟩:=id hit
 obtain⟨_,a,_,_,d⟩:=hl
 refine wpAny_bind (wpAny_callSpecial?_slot hit.typeIs F.slot_tuple_iterator_next
  (wpAny_call_entry F.slot_tuple_iterator_next hit.typeIs F.entry_tuple_iterator_next ?_ (F.args_tuple_iterator_next_1 _)))
 show wpAny _ _ (field (.ref it) 0>>=_) _ _ s
 refine wpAny_bind (wpAny_field c b (x:= .ref l) rfl (wpAny_bind (wpAny_field c b rfl (wpAny_bind (wpAny_seqItems a d ?_)))))
 simp[Int.toNat_natCast,hx]
 refine wpAny_bind (wpAny_rule (wpAny_bind (wpAny_setField c b (by simp) (wpAny_bind ?_))))
 refine wpAny_bind (wpAny_newObj_type (wpAny_bind (wpAny_of_eq (by first|rfl|omega) (wpAny_newObj_type (wpAny_bind (wpAny_handled ?_)) (by size_fits)))) (by size_fits))
 first|rw[hh]|rw[hh]
 exact wpAny_bind (wpAny_pure (wpAny_throw (hE _ _ (((Heap.SameBut.update ..).extBut.push _).push _) ⟨_,Heap.get?_push_size _ rfl,rfl⟩)))
end
theorem Draws.tupleD{prog}{w}{A}(hh:A.handled=none)(it l)(hne:l≠it)(items):
  Draws prog w A it [it,l] items.size (fun i v=>items[i]?=some v) (fun i h=>h.IsTupleIter it l i/\h.IsTuple l items)where
 live:=fun _ _ a=>let⟨o,d,_⟩:=a.1;⟨o,d⟩
 frame:=fun _ _ _ a e=>⟨let⟨o,d,r⟩:=a.1;⟨o,e it (by simp) o d,r⟩,let⟨o,d,r⟩:=a.2;⟨o,e l (by simp) o d,r⟩⟩
 item:=fun i s Q E f a j=>ZJ a.1 a.2 (x:=items[i]) (by simp[f]) fun g b c=>j _ g _ (by simp[f]) ⟨b,a.2.extBut c.extBut hne⟩ c
 done:=fun s Q E a k=>ZW hh a.1 a.2 (by simp) k
theorem Js(l)(items:Array _)(n:Nat)(dct:Option _)(sl:Array (Option Value)):
  Meets (Builtin.«enumerate.__new__» ⟨[.type "enumerate",.ref l],[]⟩) (fun _ R s=>s.heap.get? l=some {cls:= .type "tuple",dict:=dct,data:= .seq items n,slots:=sl}/\
   R (.ok (.ret (.ref (s.heap.push {cls:= .type "tuple_iterator",data:= .fields #[.ref l,.int 0 0]}).objs.size)))
    {s with heap:=(s.heap.push {cls:= .type "tuple_iterator",data:= .fields #[.ref l,.int 0 0]}).push {cls:= .type "enumerate",data:= .fields #[.none,.bool false,.ref s.heap.objs.size,rawInt 0,.none,.none]}}):=
 .of_wp fun _ w A R s h=>by
  obtain⟨e,g,d,f,os⟩:=s;obtain⟨a,h⟩:=h
  have _:=sub_enumerate
  have b:Heap.IsTuple (Shared.heap ⟨e,g,d,f,os⟩) l items:=⟨_,a,rfl,n,rfl⟩
  wp_walk using wpAny_loadPart' a
  refine wpAny_stack_any fun _=>wpAny_pure ?_
  split
  ·rename_i c _ _ _ _ _
   cases(c==Value.type "enumerate")
   ·wp_walk using wpAny_loadPart' a,wpAny_pyIter_tuple b
    exact⟨_,rfl,h⟩
   ·wp_walk using wpAny_loadPart' a,wpAny_pyIter_tuple b
    exact⟨_,rfl,h⟩
  ·wp_walk using wpAny_loadPart' a,wpAny_pyIter_tuple b
   exact⟨_,rfl,h⟩
section
variable{prog:Program}{w:World}{A:Around}{E:Value->Shared->Prop}{s:Shared}
theorem Jx{l}{items}{Q}(hL:s.heap.IsTuple l items)
  (h:∀h',IsEnum h' (s.heap.objs.size+1) s.heap.objs.size 0 .none->h'.IsTupleIter s.heap.objs.size l 0->h'.objs.size=s.heap.objs.size+2->
   (∀b o,s.heap.get? b=some o->h'.get? b=some o)->Q (.ref (s.heap.objs.size+1)) {s with heap:=h'}):
  wpAny (model prog w) A (call (.type "enumerate") [.ref l]) Q E s:=by
 obtain⟨⟨c,i,dt,sl⟩,p,k,n,j⟩:=hL
 replace k:=k
 replace j:=j
 subst k j
 refine callType_new F.called_enumerate (by decide) (F.typeCall_enumerate_1 _) (F.newCall_enumerate_1 _) (fun obj=>F.args_object_init_2 _ _) F.entry_enumerate_new
  (Js l items n i sl) ⟨p,?_⟩
 have hz:(s.heap.push {cls:= .type "tuple_iterator",data:= .fields #[.ref l,.int 0 0]}).objs.size=s.heap.objs.size+1:=Heap.size_push ..
 rw[hz]
 have m:IsEnum ((s.heap.push {cls:= .type "tuple_iterator",data:= .fields #[.ref l,.int 0 0]}).push
   {cls:= .type "enumerate",data:= .fields #[.none,.bool false,.ref s.heap.objs.size,rawInt 0,.none,.none]}) (s.heap.objs.size+1) s.heap.objs.size 0 .none:=by
  have:=Heap.get?_push_size (s.heap.push {cls:= .type "tuple_iterator",data:= .fields #[.ref l,.int 0 0]})
   (o:={cls:= .type "enumerate",data:= .fields #[.none,.bool false,.ref s.heap.objs.size,rawInt 0,.none,.none]}) rfl
  grind
 refine⟨⟨_,m,rfl⟩,h _ m ⟨_,Heap.get?_push_of_some _ (Heap.get?_push_size _ rfl),rfl,rfl⟩ (by simp_all) fun b o x=>Heap.get?_push_of_some _ (Heap.get?_push_of_some _ x)⟩
end
end PySem
namespace L2
open PySem PySem.Spec PyProof.Rows
theorem Inv.turnedL{X}{pins}{σ:St}{H}{s}{h'}{t'}{ch:List _}(I:Inv X pins σ H s)(k:∀b o,b ∉ ch->s.heap.get? b=some o->h'.get? b=some o) (hf:∀b∈ch,FpOk X pins H b):Inv X pins σ H {s with heap:=h',toks:=t'}:=by
 have _:∀b u,H b=some u->b ∉ ch:=fun b u e z=>by rw[(hf b z).1]at e;cases e
 refine I.step (fun b d=>⟨(hf b d).2.2.2.1,(hf b d).2.1,(hf b d).2.2.2.2.1,(hf b d).2.2.2.2.2⟩) (fun b o _ _ a e _=>k b o a e) (fun b o _ _ a e _=>⟨_,k b o a e⟩) (fun _ _ _ _ n=>n)
  (fun b o a e=>⟨o,k b o a e⟩) (fun _ _ e=>e) (fun _ _ _ e=>e) (fun b _ e=>⟨#[],by rw[e];simp⟩) (fun m f=>?_) (fun b u e=>?_) I.bare
 ·obtain⟨o,h,g,i,r⟩:=f
  exact⟨o,h,g,k _ o (fun z=>(hf _ z).2.1 rfl) i,r⟩
 ·refine(I.hok b u e).stay (fun c v a q=>k c v ?_ q) (fun _ q=>q) fun _ _ q=>q
  grind
def Ite(K:PySem.W.Frag)(a:Addr):It:=
 ⟨fun i H=>∃xs x,SqT K H a xs/\xs[i]?=some x,fun i H x H'=>∃T y,x= .ref T/\H T=none/\H'=upd H T (.tup [.int i,y])/\∀xs,SqT K H a xs->xs[i]?=some y,fun i H=>∃xs,SqT K H a xs/\xs.length<=i⟩
theorem Zer{P}{w}{K}{elts}{x1}{pos}(a e it)(hne:e≠it):
  Turn P w K (.Tuple elts x1 pos) (Ite K a) [e,it] e (fun i h=>(∃old,IsEnum h e it i old)/\h.IsTupleIter it a i)where
 mem:=by simp
 obj:=fun i h st b c=>by
  obtain⟨⟨old,d⟩,o,l,hc,hd⟩:=st
  rcases List.mem_cons.mp c with rfl|c
  ·exact⟨_,d,fun v z=>nomatch z⟩
  ·grind
 keep:=fun i h h' st k=>by
  obtain⟨⟨old,d⟩,o,l,r⟩:=st
  exact⟨⟨_,k e (by simp) _ d⟩,o,k it (by simp) o l,r⟩
 item:=by
  intro X hP hw hK hc i pins s σ H E I y st hg
  subst hP hw hK
  obtain⟨xs,x,hq,hx⟩:=hg
  obtain⟨t,rv,p,hz⟩:=I.tuple hq
  obtain⟨u,hu,ru⟩:=rv.get hx
  obtain⟨⟨old,d⟩,g⟩:=st
  have fe:=y e (by simp)
  have ht:=p
  have hlt:i<t.toArray.size:=by
   rw[List.size_toArray]
   exact(List.getElem?_eq_some_iff.mp hu).1
  have hai:a≠it:=fun z=>by
   obtain⟨o,l,h1,_⟩:=ht
   obtain⟨o',j,h2,_⟩:=g
   rw[z,j]at l
   cases l
   rw[h2]at h1
   exact absurd (Value.type.inj h1) (by decide)
  have hae:e≠a:=fun z=>by
   obtain⟨o,l,h1,_⟩:=ht
   have m:s.heap.get? e=_:=d
   rw[z,l]at m
   cases m
   exact absurd (Value.type.inj h1) (by decide)
  refine wpAny_pyNext_enum_itemD (Draws.tupleD (by simp[I.ok.hd hc]) it a hai _) d ⟨g,ht⟩ hlt hne (by simp_all) fun x' h' tk hP l hs' hT hsz hk=>?_
  have ex:x'=u:=by
   simp_all
  subst ex
  refine⟨_,rfl,wpAny_letOwnedTupleGo_enum l fun h2 he2 sb=>?_⟩
  have hn:=I.hok.fresh (Nat.le_refl _)
  have A:=Nat.ne_of_gt (Heap.lt_size d)
  refine⟨.ref s.heap.objs.size,_,(Inv.turnedL (ch:=[e]) (show Inv X _ σ H _ from I.turnedL (ch:=[e,it]) (fun b o c q=>hk b o (fun z=>c (by simp[z])) (fun z=>c (by simp[z])) q) fun b c=>y b c) (fun b o c q=>(sb.2 b (fun z=>c (by simp[z]))).trans q) fun b c=>by rw[List.mem_singleton.mp c];exact fe).track (I.fpOk (Nat.le_refl _) hn) I.sz ?_,rfl,⟨_,x,rfl,hn,rfl,fun ys hy=>by rw[I.tuple_inj hy hq];exact hx⟩,⟨⟨x',by simpa using he2⟩,?_⟩,fun b c=>?_⟩
  ·exact⟨JI rfl,[.int i tk,x'],.cons ⟨tk,rfl⟩ (.cons ru .nil),⟨_,((sb.2 _ A).trans hT),rfl,_,rfl⟩⟩
  ·obtain⟨o,j,r⟩:=hs'.1
   exact⟨o,(sb.2 _ (Ne.symm hne)).trans j,r⟩
  ·rcases List.mem_cons.mp c with rfl|c
   ·rw[Zf (Ne.symm A)];exact fe.1
   ·rw[List.mem_singleton.mp c,Zf]
    ·exact(y it (by simp)).1
    ·obtain⟨o,j,_⟩:=g
     exact Nat.ne_of_lt (Heap.lt_size j)
 done:=by
  intro X hP hw hK hc i pins s σ H E I y st hg
  subst hP hw hK
  obtain⟨xs,hq,hx⟩:=hg
  obtain⟨t,rv,p,hz⟩:=I.tuple hq
  obtain⟨⟨old,d⟩,g⟩:=st
  have hl:=rv.length
  have hT:s.TypeIs (.ref e) "enumerate":=⟨_,d,rfl⟩
  unfold pyNext
  refine wpAny_bind (wpAny_attempt (wpAny_callSpecial?_slot (name:=Str.ofString "__next__") hT F.slot_enumerate_next
   (wpAny_call_entry F.slot_enumerate_next hT F.entry_enumerate_next ?_ (F.args_enumerate_next_1 _))))
  show wpAny _ _ (field (.ref e) 2>>=_) _ _ _
  refine wpAny_bind (wpAny_field d rfl (x:= .ref it) rfl (wpAny_bind (ZW (by simp[I.ok.hd hc]) g p (by simp;omega) fun h' x m hx'=>?_)))
  obtain⟨o,l,hc'⟩:=hx'
  exact wpAny_bind (wpAny_isInstance (T:="StopIteration") (b:=true) ⟨o,l,hc'⟩ isSubtype_stop (wpAny_pure ⟨rfl,I.turnedL (t':=s.toks) (ch:=[it]) (fun b o c q=>m b o (fun z=>c (by simp[z])) q) fun b c=>by rw[List.mem_singleton.mp c];exact y it (by simp)⟩))
 self:=fun _ _ _ _ _ st h=>by
  obtain⟨⟨old,d⟩,_⟩:=st
  exact wpAny_pyIter_enum d h
def ZkG(K:PySem.W.Frag)(ta:TA):TI:=fun σ H R=>ta σ H fun vs H1=>∃a,vs=[.ref a]/\(∃xs,SqT K H1 a xs)/\R (Ite K a) H1
theorem ZeQ:bootBuiltins "enumerate"=some (.type "enumerate"):=by decide+kernel
theorem ZdR{X}{elts}{x1}{tpos}{a}{ta}{p pos}(hg:Gl X "enumerate")(hm:X.mg "enumerate"=none)(ha:PA X [a] ta)(hpl:ZV a=true):PI X (.Tuple elts x1 tpos) (.Call (.Name "enumerate" p) [a] [] pos) (ZkG X.K ta):=by
 refine fun f s σ H R I h=>Call_ (Yy I hg hm ZeQ (PyProof.Rows.callWith_type1 (thn (ha pos f s σ H _ I h) fun _ j xq1=>?_) (Yb hpl) rfl))
 obtain⟨_,v,d,o,l⟩:=xq1
 obtain⟨b,e,⟨_,m⟩,q⟩:=l
 subst e
 obtain⟨u,rfl,k⟩:=vals1 o
 cases k
 obtain⟨_,_,t,_⟩:=d.tuple m
 refine Jx t fun _ i r _ n=>wpAny_pyIter_enum i ⟨_,_,_,_,v,rfl,(d.kept (t':=j.toks) n),Zer b _ _ (Nat.succ_ne_self _),⟨⟨.none,i⟩,r⟩,fun c g=>?_,q⟩
 rcases List.mem_cons.mp g with rfl|g
 ·exact d.fpOk (Nat.le_succ _) (d.hok.fresh (Nat.le_succ _))
 ·rw[List.mem_singleton.mp g]
  exact d.fpOk (Nat.le_refl _) (d.hok.fresh (Nat.le_refl _))
def Zls(K:PySem.W.Frag)(bs:List (Option Nat))(ta:TA)(g:TG)(tt:TT)(te:TE):TE:=fun σ H Q=>ta σ H fun vs H1=>∃a xs,vs=[.ref a]/\SqT K H1 a xs/\xs.length<=100000/\∃Pv:Nat->List V->St->Hp->Prop,Pv 0 [] (bst bs σ) H1/\
 (∀i ys σ H,i<=xs.length->Pv i ys σ H->SqT K H a xs/\ys.length<=i)/\
 (∀i x ys σ H,xs[i]?=some x->Pv i ys σ H->∀T H2,Same H H2->H2 T=some (.tup [.int i,x])->g (.ref T) σ H2 fun σ3 H3=>tt σ3 H3 fun b H4=>if b=true then te σ3 H4 fun v H5=>Pv (i+1) (ys++[v]) σ3 H5 else Pv (i+1) ys σ3 H4)/\
 ∀ys σ H,Pv xs.length ys σ H->∀p H',Same H H'->H' p=some (.lst ys)->Q (.ref p) H'
theorem Zf0{X}{scope}{cl}{N}{bs}{elts}{x1}{tpos}{a elt}{ifs}{p pos' pos}{ta}{g}{tt}{te}(B:Blk X scope cl N bs)(hc:X.calm=true)
  (hgl:Gl X "enumerate")(hmr:X.mg "enumerate"=none)(ha:PA X [a] ta)(hm:Zah ta)(hpl:ZV a=true)(hg:∀C fp s H,PG (ZA X scope cl C N fp s H) (.Tuple elts x1 tpos) g) (ht:∀C fp s H,PTs (ZA X scope cl C N fp s H) ifs tt) (he:∀C fp s H,PE (ZA X scope cl C N fp s H) elt te)
  (hs:∀x,foldedSetIterable (.Call (.Name "enumerate" p) [a] [] pos') X.env x=pure x:=by intro _;rfl):PE X (.ListComp elt [⟨.Tuple elts x1 tpos,.Call (.Name "enumerate" p) [a] [] pos',ifs,0⟩] scope pos) (Zls X.K bs ta g tt te):=by
 refine fun _ s σ H Q I h=>@ZdS X _ cl N bs _ _ _ _ _ _ g tt te B hc (@ZdR X elts x1 tpos a ta p pos' hgl hmr ha hpl) hg ht he hs _ s σ H Q I (hm σ H _ _ (fun _ _ h=>?_) h)
 obtain⟨a,b,e,o,k,r,t,u,v,E⟩:=h
 refine⟨a,e,⟨b,o⟩,fun i m f σ H=>m=b.length-i/\i<=b.length/\r i f σ H,⟨b.length,by simp,Nat.zero_le _,t⟩,?_⟩
 rintro i m f σ H ⟨rfl,l,c⟩
 obtain⟨q,_⟩:=u i f σ H l c
 have _:=YI k
 by_cases d:i<b.length
 ·refine .inr ⟨⟨b,b[i],q,by simp[d]⟩,by omega,_,fun _ _ n D=>⟨_,by omega,rfl,d,D⟩,fun x n y=>?_⟩
  obtain⟨T,w,rfl,z,rfl,A⟩:=y
  exact v i w f σ H (A b q) c T _ (Zz z) Zd
 ·have e:i=b.length:=by omega
  subst e
  exact .inl ⟨⟨b,q,Nat.le_refl _⟩,by omega,fun p j=>E f σ H c p _ (Zz j) Zd⟩
end L2
namespace SetT
open PySem PySem.SetTable
def adv(mask:Nat)(p:Probe):Probe:=
 if p.more>0 then{p with j:=p.j+1,more:=p.more-1}else
 {p with j:=(leap mask p.i p.perturb).1,more:=runEnd mask (leap mask p.i p.perturb).1-(leap mask p.i p.perturb).1,i:=(leap mask p.i p.perturb).1,perturb:=(leap mask p.i p.perturb).2}
def st0(mask:Nat)(b:Nat):Probe:={j:=b%(mask+1),more:=runEnd mask (b%(mask+1))-b%(mask+1),i:=b%(mask+1),perturb:=b,dummy:=none}
def stk(mask b:Nat):Nat->Probe
 |0=>st0 mask b
 |k+1=>adv mask (stk mask b k)
def pos(mask b k:Nat):Nat:=(stk mask b k).j
def rs(mask b:Nat):Nat->Nat×Nat
 |0=>(b%(mask+1),b)
 |n+1=>leap mask (rs mask b n).1 (rs mask b n).2
def fL(mask x:Nat):Nat:=(x*5+1)%(mask+1)
def itF(mask x:Nat):Nat->Nat
 |0=>x
 |n+1=>fL mask (itF mask x n)
def ZhP(mask x:Nat):Nat->List Nat
 |0=>[]
 |n+1=>x::ZhP mask (fL mask x) n
def ZbO(mask:Nat):Bool:=(List.range (mask+1)).all (fun z=>(ZhP mask 0 (mask+1)).contains z)&&(itF mask 0 (mask+1)==0)
theorem ZkK:ZbO 7=true:=by decide+kernel
theorem Zjb:ZbO 31=true:=by decide+kernel
theorem Zhm:ZbO 127=true:=by decide+kernel
theorem Zhl:ZbO 511=true:=by decide+kernel
def Zme(xs:Array Nat):Prop:=∀i j,i<j->j<xs.size->xs.getD i 0<xs.getD j 0
structure Zlh(t:SetTable)(es:Array (Int×Value)):Prop where
 full:ZbO t.mask=true
 odd:t.mask%2=1
 nod:t.dummies=#[]
 rise:Zme t.place
 le:∀(i v:Nat),t.place[i]?=some v->v<t.mask+1
 size:t.place.size=es.size
 path:∀(i v:Nat)(e:Int×Value),t.place[i]?=some v->es[i]?=some e->∃k,pos t.mask (bits e.1) k=v/\∀k',k'<k->∃i':Nat,t.place[i']?=some (pos t.mask (bits e.1) k')
variable{t:SetTable}{es:Array (Int×Value)}
end SetT
namespace SetT
open PySem PySem.SetTable PySem.Spec PyProof.Rows
variable{prog:Program}{w:World}{N:Addr->Prop}{A:Around}{E:Value->Shared->Prop}{s:Shared}
abbrev IsP(prog:Program)(w:World)(h:Heap)(k:List Int)(b:Addr):Prop:=IsTupleKey (intKind prog w) h k b
abbrev hk(prog:Program)(w:World)(k:List Int):Int:=(tupleKind (intKind prog w)).hash k
def EntK(prog:Program)(w:World)(N:Addr->Prop)(h:Heap)(e:Int×Value)(k:List Int):Prop:=∃b,(e.2= .ref b/\N b)/\IsP prog w h k b/\e.1=hk prog w k
theorem EntK.inj{h:Heap}{e:Int×Value}{k k':List Int}(x:EntK prog w N h e k)(y:EntK prog w N h e k'):k=k':=by
 obtain⟨b,⟨e1,_⟩,p,_⟩:=x
 obtain⟨b',⟨e2,_⟩,p',_⟩:=y
 rw[e1]at e2
 cases e2
 exact p.inj p'
variable{prog:Program}{w:World}{N:Addr->Prop}{A:Around}{E:Value->Shared->Prop}{s:Shared}
variable{prog:Program}{w:World}{N:Addr->Prop}{A:Around}{E:Value->Shared->Prop}{s:Shared}
def Mk(m:Nat):Prop:=m=7\/m=31\/m=127\/m=511
theorem Mk.full{m:Nat}(h:Mk m):ZbO m=true/\m%2=1:=by
 rcases h with rfl|rfl|rfl|rfl
 ·exact⟨ZkK,rfl⟩
 ·exact⟨Zjb,rfl⟩
 ·exact⟨Zhm,rfl⟩
 ·exact⟨Zhl,rfl⟩
theorem IsP.same{h h':Heap}{k:List Int}{a b:Addr}{o:Obj}{es:Array (Int×Value)}{ep:Nat}{t:SetTable}(x:IsP prog w h k b)(ho:h.get? a=some o)(hd:o.data= .set es ep t)(hs:Heap.SameBut a h h'):IsP prog w h' k b:=by
 obtain⟨o',items,n,ho',hc,hd',hi⟩:=x
 have hne:b≠a:=by
  rintro rfl
  obtain rfl:o'=o:=Option.some.inj (ho'.symm.trans ho)
  rw[hd]at hd';exact nomatch hd'
 exact⟨o',items,n,(hs.2 b hne).trans ho',hc,hd',hi⟩
theorem EntK.same{h h':Heap}{e:Int×Value}{k:List Int}{a:Addr}{o:Obj}{es:Array (Int×Value)}{ep:Nat}{t:SetTable}(x:EntK prog w N h e k)(ho:h.get? a=some o)(hd:o.data= .set es ep t)(hs:Heap.SameBut a h h'):EntK prog w N h' e k:=
 let⟨b,e1,p,e2⟩:=x;⟨b,e1,p.same ho hd hs,e2⟩
variable{prog:Program}{w:World}{A:Around}{E:Value->Shared->Prop}{s:Shared}
end SetT
namespace PySem
open Sem(wp)
section
variable{prog:Program}{w:World}{A:Around}{E:Value->Shared->Prop}{s:Shared}
theorem Za1{z TI TO i1 i2 l1 l2}{k1 k2}{xs ys}{x y a b}{Q:Value->Shared->Prop}(D:ZipApart z TI TO i1 i2 l1 l2)
  (hz:IsZip s.heap z TI TO .none)(hTI:IsPair s.heap TI (.ref i1) (.ref i2))(hTO:IsPair s.heap TO a b)
  (h1:s.heap.IsTupleIter i1 l1 k1)(h2:s.heap.IsListIter i2 l2 k2)(hl1:s.heap.IsTuple l1 xs)(hl2:s.heap.IsList l2 ys)(hx:xs[k1]?=some x)(hy:ys[k2]?=some y)
  (hQ:∀h',IsZip h' z TI TO (rawInt s.heap.objs.size)->IsPair h' TO x y->h'.IsTupleIter i1 l1 (k1+1)->h'.IsListIter i2 l2 (k2+1)->IsPair h' s.heap.objs.size x y->h'.objs.size=s.heap.objs.size+1->
   (∀c o,c≠z->c≠TO->c≠i1->c≠i2->s.heap.get? c=some o->h'.get? c=some o)->Q (.ref s.heap.objs.size) {s with heap:=h'}):
  wpAny (model prog w) A (Builtin.«zip.__next__» ⟨[.ref z],[]⟩) (fun fin s'=>∃v,fin= .done (.ret v)/\Q v s') E s:=by
 show wpAny _ _ (field (.ref z) 2>>=_) _ _ _
 refine wpAny_bind (wpAny_field hz rfl (x:= .bool false) rfl (wpAny_bind (wpAny_field hz rfl (x:= .ref TI) rfl (wpAny_bind (wpAny_seqItems hTI rfl (wpAny_bind (wpAny_bind (wpAny_field hz rfl (x:= .none) rfl (wpAny_pure ?_)))))))))
 refine wpAny_bind (wpAny_rule (wpAny_bind (wpAny_field hz rfl (x:= .ref TO) rfl (wpAny_bind (wpAny_setField_rec hz (by simp) fun h₁ u f=>?_)))))
 replace u:=u
 refine wpAny_bind (wpAny_bind (wpAny_bind (wpAny_onRaise (wpAny_bind (ZJ (h1.extBut f.extBut D.i1z) (hl1.extBut f.extBut D.l1z) hx fun h₂ h1₂ i=>wpAny_pure ?_)))))
 have t:=i.extBut _ _ D.TOi1 (f.extBut _ _ D.TOz hTO)
 refine wpAny_bind (wpAny_seqItems t rfl (wpAny_bind (wpAny_updateSeq_pair t fun h₃ l h=>?_)))
 replace l:=l
 refine wpAny_bind (wpAny_letGo (wpAny_pure (wpAny_bind (wpAny_bind (wpAny_onRaise (wpAny_bind (wpAny_nextOf_list_item (((h2.extBut f.extBut D.i2z).extBut i.extBut D.i12.symm).extBut h.extBut D.TOi2.symm)
  (((hl2.extBut f.extBut D.l2z).extBut i.extBut D.l2i1).extBut h.extBut D.l2TO) hy fun h₄ h2₄ k=>wpAny_pure ?_)))))))
 have p:=k.extBut _ _ D.TOi2 l
 refine wpAny_bind (wpAny_seqItems p rfl (wpAny_bind (wpAny_updateSeq_pair p fun m g j=>?_)))
 replace g:IsPair m TO x y:=g
 refine wpAny_bind (wpAny_letGo (wpAny_pure (wpAny_pure (wpAny_bind (wpAny_seqItems g rfl (wpAny_bind (wpAny_newTuple ?_)))))))
 have hsz:m.objs.size=s.heap.objs.size:=by rw[j.1,k.1,h.1,i.1,f.1]
 have hz₅:=j.extBut _ _ D.TOz.symm (k.extBut _ _ D.i2z.symm (h.extBut _ _ D.TOz.symm (i.extBut _ _ D.i1z.symm u)))
 have hk₅:∀c o,c≠z->c≠TO->c≠i1->c≠i2->s.heap.get? c=some o->m.get? c=some o:=fun c o B c2 c3 c4 e=>
  j.extBut _ _ c2 (k.extBut _ _ c4 (h.extBut _ _ c2 (i.extBut _ _ c3 (f.extBut _ _ B e))))
 have q:=Heap.lt_size hz₅
 refine wpAny_bind (wpAny_bind (wpAny_setField_rec (show IsZip (m.push {cls:= .type "tuple",data:= .seq #[x,y]}) z TI TO .ellipsis from Heap.get?_push_of_some _ hz₅) (by simp) fun h₇ G C=>?_))
 replace G:IsZip h₇ z TI TO (rawInt m.objs.size):=G
 refine wpAny_setField_rec G (by simp) fun h₈ n F=>?_
 replace n:IsZip h₈ z TI TO (rawInt m.objs.size):=n
 have up:∀c o,c≠z->m.get? c=some o->h₈.get? c=some o:=fun c o B e=>F.extBut _ _ B (C.extBut _ _ B (Heap.get?_push_of_some _ e))
 have hT₈:IsPair h₈ m.objs.size x y:=F.extBut _ _ (Nat.ne_of_gt q) (C.extBut _ _ (Nat.ne_of_gt q) (Heap.get?_push_size _ rfl))
 have hz8:h₈.objs.size=m.objs.size+1:=by rw[F.1,C.1,Heap.size_push]
 rw[hsz]at n hT₈ hz8
 refine wpAny_pure ⟨_,rfl,?_⟩
 rw[hsz]
 exact hQ h₈ n (up _ _ D.TOz g) (let⟨o,ho,r⟩:=(((h1₂.extBut h.extBut D.TOi1.symm).extBut k.extBut D.i12).extBut j.extBut D.TOi1.symm);⟨o,up _ o D.i1z ho,r⟩) ((h2₄.extBut j.extBut D.TOi2.symm).at fun o e=>up _ o D.i2z e) hT₈ hz8 fun c o B c2 c3 c4 e=>up c o B (hk₅ c o B c2 c3 c4 e)
theorem ZaE{z TI TO i1 i2 l1 l2}{k1 k2}{xs ys}{a b}{Q}(hh:A.handled=none)(D:ZipApart z TI TO i1 i2 l1 l2)
  (hz:IsZip s.heap z TI TO .none)(hTI:IsPair s.heap TI (.ref i1) (.ref i2))(hTO:IsPair s.heap TO a b)
  (h1:s.heap.IsTupleIter i1 l1 k1)(h2:s.heap.IsListIter i2 l2 k2)(hl1:s.heap.IsTuple l1 xs)(hl2:s.heap.IsList l2 ys)(hend:xs[k1]?=none\/ys[k2]?=none)
  (hE:∀h' e,(∀c o,c≠z->c≠TO->c≠i1->c≠i2->s.heap.get? c=some o->h'.get? c=some o)->(∃o,h'.get? e=some o/\o.cls= .type "StopIteration")->E (.ref e) {s with heap:=h'}):
  wpAny (model prog w) A (Builtin.«zip.__next__» ⟨[.ref z],[]⟩) Q E s:=by
 show wpAny _ _ (field (.ref z) 2>>=_) _ _ _
 refine wpAny_bind (wpAny_field hz rfl (x:= .bool _) rfl (wpAny_bind (wpAny_field hz rfl (x:= .ref TI) rfl (wpAny_bind (wpAny_seqItems hTI rfl (wpAny_bind (wpAny_bind (wpAny_field hz rfl (x:= .none) rfl (wpAny_pure ?_)))))))))
 refine wpAny_bind (wpAny_rule (wpAny_bind (wpAny_field hz rfl (x:= .ref TO) rfl (wpAny_bind (wpAny_setField_rec hz (by simp) fun _ i f=>?_)))))
 replace i:=i
 refine wpAny_bind (wpAny_bind (wpAny_bind (wpAny_onRaise ?_)))
 cases B:xs[k1]? with
 |none=>
  refine wpAny_bind (ZW hh (h1.extBut f.extBut D.i1z) (hl1.extBut f.extBut D.l1z) B fun F e g u=>?_)
  obtain⟨r,k,l⟩:=u
  have v:=g _ _ D.i1z.symm i
  refine wpAny_setField_rec v (by simp) fun y _ h=>hE y e (fun c o p _ q _ x=>h.extBut _ _ p (g _ _ q (f.extBut _ _ p x))) ⟨r,h.extBut _ _ (show e≠z from fun x=>by grind) k,l⟩
 |some x=>
  refine wpAny_bind (ZJ (h1.extBut f.extBut D.i1z) (hl1.extBut f.extBut D.l1z) B fun F _ g=>wpAny_pure ?_)
  have j:=g.extBut _ _ D.TOi1 (f.extBut _ _ D.TOz hTO)
  refine wpAny_bind (wpAny_seqItems j rfl (wpAny_bind (wpAny_updateSeq_pair j fun y _ h=>(wpAny_bind (wpAny_letGo (wpAny_pure (wpAny_bind (wpAny_bind (wpAny_onRaise (wpAny_bind (wpAny_nextOf_list_end hh (((h2.extBut f.extBut D.i2z).extBut g.extBut D.i12.symm).extBut h.extBut D.TOi2.symm)
   (((hl2.extBut f.extBut D.l2z).extBut g.extBut D.l2i1).extBut h.extBut D.l2TO) (show ys[k2]?=none by grind) fun _ e n u=>?_)))))))))))
  obtain⟨r,k,l⟩:=u
  have t:=n _ _ D.i2z.symm (h.extBut _ _ D.TOz.symm (g.extBut _ _ D.i1z.symm i))
  refine wpAny_setField_rec t (by simp) fun H _ m=>hE H e (fun c o p C q G x=>m.extBut _ _ p (n _ _ G (h.extBut _ _ C (g.extBut _ _ q (f.extBut _ _ p x))))) ⟨r,m.extBut _ _ (show e≠z from fun x=>by grind) k,l⟩
theorem YO{z TI TO i1 i2 l1 l2}{k1 k2}{xs ys}{x y a b}{Q}(D:ZipApart z TI TO i1 i2 l1 l2)
  (hz:IsZip s.heap z TI TO .none)(hTI:IsPair s.heap TI (.ref i1) (.ref i2))(hTO:IsPair s.heap TO a b)
  (h1:s.heap.IsTupleIter i1 l1 k1)(h2:s.heap.IsListIter i2 l2 k2)(hl1:s.heap.IsTuple l1 xs)(hl2:s.heap.IsList l2 ys)(hx:xs[k1]?=some x)(hy:ys[k2]?=some y)
  (hQ:∀h',IsZip h' z TI TO (rawInt s.heap.objs.size)->IsPair h' TO x y->h'.IsTupleIter i1 l1 (k1+1)->h'.IsListIter i2 l2 (k2+1)->IsPair h' s.heap.objs.size x y->h'.objs.size=s.heap.objs.size+1->
   (∀c o,c≠z->c≠TO->c≠i1->c≠i2->s.heap.get? c=some o->h'.get? c=some o)->Q (some (.ref s.heap.objs.size)) {s with heap:=h'}):
  wpAny (model prog w) A (pyNext (.ref z)) Q E s:=by
 have d:s.TypeIs (.ref z) _:=⟨_,hz,rfl⟩
 exact wpAny_bind (wpAny_attempt (wpAny_callSpecial?_slot d F.slot_zip_next
  (wpAny_call_entry F.slot_zip_next d F.entry_zip_next
   (Za1 D hz hTI hTO h1 h2 hl1 hl2 hx hy fun h' k g j e i f h=>wpAny_pure (hQ h' k g j e i f h)) (F.args_zip_next_1 _))))
theorem YX{z TI TO i1 i2 l1 l2}{k1 k2}{xs ys}{a b}{Q}(hh:A.handled=none)(D:ZipApart z TI TO i1 i2 l1 l2)
  (hz:IsZip s.heap z TI TO .none)(hTI:IsPair s.heap TI (.ref i1) (.ref i2))(hTO:IsPair s.heap TO a b)
  (h1:s.heap.IsTupleIter i1 l1 k1)(h2:s.heap.IsListIter i2 l2 k2)(hl1:s.heap.IsTuple l1 xs)(hl2:s.heap.IsList l2 ys)(hend:xs[k1]?=none\/ys[k2]?=none)
  (hQ:∀h',(∀c o,c≠z->c≠TO->c≠i1->c≠i2->s.heap.get? c=some o->h'.get? c=some o)->Q none {s with heap:=h'}):wpAny (model prog w) A (pyNext (.ref z)) Q E s:=by
 have d:s.TypeIs (.ref z) _:=⟨_,hz,rfl⟩
 refine wpAny_bind (wpAny_attempt (wpAny_callSpecial?_slot d F.slot_zip_next
  (wpAny_call_entry F.slot_zip_next d F.entry_zip_next (ZaE hh D hz hTI hTO h1 h2 hl1 hl2 hend fun h' e h i=>?_) (F.args_zip_next_1 _))))
 obtain⟨o,g,f⟩:=i
 exact wpAny_bind (wpAny_isInstance (T:="StopIteration") (b:=_) ⟨o,g,f⟩ isSubtype_stop (wpAny_pure (hQ _ h)))
end
abbrev Zg6(h:Heap)(l1:Addr):Heap:=h.push {cls:= .type "tuple_iterator",data:= .fields #[.ref l1,.int 0 0]}
abbrev Zg5(h:Heap)(l1 l2:Addr):Heap:=(Zg6 h l1).push {cls:= .type "list_iterator",data:= .fields #[.ref l2,.int 0 0]}
abbrev Zg4(h:Heap)(l1 l2:Addr):Heap:=(Zg5 h l1 l2).push {cls:= .type "tuple",data:= .seq #[.ref h.objs.size,.ref (Zg6 h l1).objs.size]}
abbrev Zg3(h:Heap)(l1 l2:Addr):Heap:=(Zg4 h l1 l2).push {cls:= .type "tuple",data:= .seq #[.none,.none]}
abbrev Zdf(h:Heap)(l1 l2:Addr):Heap:=(Zg3 h l1 l2).push {cls:= .type "zip",data:= .fields #[.none,.bool false,.bool false,.ref (Zg5 h l1 l2).objs.size,.ref (Zg4 h l1 l2).objs.size]}
theorem Za3(l1 l2)(xs ys:Array _):
  Meets (Builtin.«zip.__new__» ⟨[.type "zip",.ref l1,.ref l2],[]⟩) (fun _ R s=>s.heap.IsTuple l1 xs/\s.heap.IsList l2 ys/\
   R (.ok (.ret (.ref (Zg3 s.heap l1 l2).objs.size))) {s with heap:=Zdf s.heap l1 l2}):=
 .of_wp fun prog w A R s h=>by
  obtain⟨hp,g,d,tk,os⟩:=s;obtain⟨a,hl2,h⟩:=h
  have hsub:=sub_zip
  wp_walk using wpAny_pyIter_tuple a,wpAny_pyIter_list (show Heap.IsList (Shared.heap ⟨hp.push {cls:= .type "tuple_iterator",data:= .fields #[.ref l1,.int 0 0]},g,d,tk,os⟩) l2 ys from Heap.IsList.push hl2 _)
  exact⟨_,rfl,h⟩
section
variable{prog:Program}{w:World}{A:Around}{E:Value->Shared->Prop}{s:Shared}
theorem ZdD{l1 l2}{xs ys}{Q}(hl1:s.heap.IsTuple l1 xs)(hl2:s.heap.IsList l2 ys)
  (h:∀h',IsZip h' (s.heap.objs.size+4) (s.heap.objs.size+2) (s.heap.objs.size+3) .none->IsPair h' (s.heap.objs.size+2) (.ref s.heap.objs.size) (.ref (s.heap.objs.size+1))->
   IsPair h' (s.heap.objs.size+3) .none .none->h'.IsTupleIter s.heap.objs.size l1 0->h'.IsListIter (s.heap.objs.size+1) l2 0->h'.objs.size=s.heap.objs.size+5->
   (∀c o,s.heap.get? c=some o->h'.get? c=some o)->Q (.ref (s.heap.objs.size+4)) {s with heap:=h'}):
  wpAny (model prog w) A (call (.type "zip") [.ref l1,.ref l2]) Q E s:=by
 refine callType_new F.called_zip (by decide) (F.typeCall_zip_2 _ _) (F.newCall_zip_2 _ _) (fun d=>F.args_object_init_3 d _ _) F.entry_zip_new
  (Za3 l1 l2 xs ys) ⟨hl1,hl2,?_⟩
 have g:(Zg6 s.heap l1).objs.size=s.heap.objs.size+1:=Heap.size_push ..
 have i:(Zg5 s.heap l1 l2).objs.size=s.heap.objs.size+2:=by simp_all
 have m:(Zg4 s.heap l1 l2).objs.size=s.heap.objs.size+3:=by simp_all
 have j:(Zg3 s.heap l1 l2).objs.size=s.heap.objs.size+4:=by simp_all
 have e:(Zdf s.heap l1 l2).get? (Zg3 s.heap l1 l2).objs.size=some _:=Heap.get?_push_size _ rfl
 have l:(Zdf s.heap l1 l2).get? (Zg4 s.heap l1 l2).objs.size=some _:=Heap.get?_push_of_some _ (Heap.get?_push_size _ rfl)
 have k:(Zdf s.heap l1 l2).get? (Zg5 s.heap l1 l2).objs.size=some _:=Heap.get?_push_of_some _ (Heap.get?_push_of_some _ (Heap.get?_push_size _ rfl))
 have f:(Zdf s.heap l1 l2).get? (Zg6 s.heap l1).objs.size=some _:=Heap.get?_push_of_some _ (Heap.get?_push_of_some _ (Heap.get?_push_of_some _ (Heap.get?_push_size _ rfl)))
 rw[i,m,j]at e
 rw[g,i]at k
 rw[m]at l
 rw[g]at f
 rw[j]
 exact⟨⟨_,e,rfl⟩,h _ e k l ⟨_,(show(Zdf s.heap l1 l2).get? s.heap.objs.size=some _ from Heap.get?_push_of_some _ (Heap.get?_push_of_some _ (Heap.get?_push_of_some _ (Heap.get?_push_of_some _ (Heap.get?_push_size _ rfl))))),rfl,rfl⟩ ⟨_,f,rfl,rfl⟩ (show(Zdf s.heap l1 l2).objs.size=s.heap.objs.size+5 by simp_all) fun c o x=>
  Heap.get?_push_of_some _ (Heap.get?_push_of_some _ (Heap.get?_push_of_some _ (Heap.get?_push_of_some _ (Heap.get?_push_of_some _ x))))⟩
end
end PySem
namespace L2
open PySem PySem.Spec PyProof.Rows
def Itz(K:PySem.W.Frag)(a c:Addr):It:=
 ⟨fun i H=>∃xs ys x y,SqT K H a xs/\SqL K H c ys/\xs[i]?=some x/\ys[i]?=some y,
  fun i H x H'=>∃T u v,x= .ref T/\H T=none/\H'=upd H T (.tup [u,v])/\(∀xs,SqT K H a xs->xs[i]?=some u)/\∀ys,SqL K H c ys->ys[i]?=some v,
  fun i H=>∃xs ys,SqT K H a xs/\SqL K H c ys/\(xs.length<=i\/ys.length<=i)⟩
structure ZSt(h:Heap)(z TI TO i1 i2 a c:Addr)(i:Nat):Prop where
 zip:IsZip h z TI TO .none
 ti:IsPair h TI (.ref i1) (.ref i2)
 to:∃u v,IsPair h TO u v
 it1:h.IsTupleIter i1 a i
 it2:h.IsListIter i2 c i
theorem Zfc{P}{w}{K}{elts}{x1}{pos}(z TI TO i1 i2 a c)(D:ZipApart z TI TO i1 i2 a c):
  Turn P w K (.Tuple elts x1 pos) (Itz K a c) [z,TI,TO,i1,i2] z (fun i h=>ZSt h z TI TO i1 i2 a c i)where
 mem:=by simp
 obj:=fun i h st b f=>by
  obtain⟨l,g,⟨u,v,j⟩,⟨o1,e1,c1,d1⟩,⟨o2,e2,c2,d2⟩⟩:=st
  simp[List.mem_cons,List.not_mem_nil,or_false]at f
  rcases f with rfl|rfl|rfl|rfl|rfl
  ·exact⟨_,l,fun v z=>nomatch z⟩
  ·exact⟨_,g,fun v z=>nomatch z⟩
  ·exact⟨_,j,fun v z=>nomatch z⟩
  ·grind
  ·grind
 keep:=fun i h h' st k=>by
  obtain⟨l,g,⟨u,v,j⟩,⟨o1,e1,r1⟩,⟨o2,e2,r2⟩⟩:=st
  exact⟨k z (by simp) _ l,k TI (by simp) _ g,⟨u,v,k TO (by simp) _ j⟩,⟨o1,k i1 (by simp) _ e1,r1⟩,⟨o2,k i2 (by simp) _ e2,r2⟩⟩
 item:=by
  intro X hP hw hK hc i pins s σ H E I hf st hg
  subst hP hw hK
  obtain⟨xs,ys,x,y,n,m,hx,hy⟩:=hg
  obtain⟨its,rv,p,l⟩:=I.tuple n
  obtain⟨jts,r,pl,hz2⟩:=I.list m
  obtain⟨u,hu,ru⟩:=rv.get hx
  obtain⟨v,hv,rv'⟩:=r.get hy
  obtain⟨l,g,⟨u0,v0,j⟩,h1,h2⟩:=st
  refine YO D l g j h1 h2 p pl.isList (by simpa using hu) (by simpa using hv) fun h' a1 a2 a3 a4 a5 a6 hk=>⟨_,rfl,wpAny_letOwnedTupleGo_zip a1 fun h2' C t=>?_⟩
  have hn:=I.hok.fresh (Nat.le_refl _)
  obtain⟨o1,e1,r1⟩:=a3
  obtain⟨o2,e2,r2⟩:=a4
  refine⟨.ref s.heap.objs.size,upd H s.heap.objs.size (.tup [x,y]),(Inv.turnedL (s:={s with heap:=h'}) (t':=s.toks) (ch:=[z]) (I.turnedL (t':=s.toks) (ch:=[z,TI,TO,i1,i2]) (fun b o f q=>hk b o (fun z=>f (by simp[z])) (fun z=>f (by simp[z])) (fun z=>f (by simp[z])) (fun z=>f (by simp[z])) q) fun b f=>hf b f) (fun b o f q=>(t.2 b (fun z=>f (by simp[z]))).trans q) fun b f=>by grind).track (I.fpOk (Nat.le_refl _) hn) I.sz ⟨JI rfl,[u,v],.cons ru (.cons rv' .nil),⟨_,((t.2 _ (Nat.ne_of_gt (Heap.lt_size l))).trans a5),rfl,_,rfl⟩⟩,rfl,
   ⟨_,x,y,rfl,hn,rfl,fun zs hs=>by rw[I.tuple_inj hs n];exact hx,fun zs hs=>by rw[I.list_inj hs m];exact hy⟩,
   ⟨C,(t.2 _ D.TIz).trans (hk _ _ D.TIz D.TITO D.TIi1 D.TIi2 g),⟨_,_,(t.2 _ D.TOz).trans a2⟩,⟨o1,(t.2 _ D.i1z).trans e1,r1⟩,⟨o2,(t.2 _ D.i2z).trans e2,r2⟩⟩,fun b f=>?_⟩
  rw[Zf]
  ·exact((hf b f).1)
  ·intro e
   have:∃o,s.heap.get? b=some o:=by
    grind
   obtain⟨o,q⟩:=this
   rw[e]at q
   exact Nat.lt_irrefl _ (Heap.lt_size q)
 done:=by
  intro X hP hw hK hc i pins s σ H E I hf st hg
  subst hP hw hK
  obtain⟨xs,ys,n,m,A⟩:=hg
  obtain⟨its,rv,p,l⟩:=I.tuple n
  obtain⟨jts,r,pl,hz2⟩:=I.list m
  have l1:=rv.length
  have l2:=r.length
  obtain⟨l,g,⟨u0,v0,j⟩,h1,h2⟩:=st
  refine YX (I.ok.hd hc) D l g j h1 h2 p pl.isList ?_ fun h' hk=>⟨rfl,I.turnedL (t':=s.toks) (ch:=[z,TI,TO,i1,i2]) (fun b o f q=>hk b o (fun z=>f (by simp[z])) (fun z=>f (by simp[z])) (fun z=>f (by simp[z])) (fun z=>f (by simp[z])) q) fun b f=>hf b f⟩
  rcases A with q|q
  ·grind
  ·exact .inr (by simp;omega)
 self:=fun _ _ _ _ _ st h=>wpAny_pyIter_zip st.zip h
def ZlW(K:PySem.W.Frag)(ta:TA):TI:=fun σ H R=>ta σ H fun vs H1=>∃a c,vs=[.ref a,.ref c]/\(∃xs,SqT K H1 a xs)/\(∃ys,SqL K H1 c ys)/\R (Itz K a c) H1
theorem boot_zip:bootBuiltins "zip"=some (.type "zip"):=by decide+kernel
theorem Zi3{X}{elts}{x1}{tpos}{a b}{ta}{p pos}(hg:Gl X "zip")(hm:X.mg "zip"=none)(ha:PA X [a,b] ta)(hpl:ZV a=true)(hpl2:ZV b=true):PI X (.Tuple elts x1 tpos) (.Call (.Name "zip" p) [a,b] [] pos) (ZlW X.K ta):=by
 refine fun f s σ H R I h=>Call_ (Yy I hg hm boot_zip (PyProof.Rows.callWith_type1 (thn (ha pos f s σ H _ I h) fun _ j xq1=>?_) (Yb hpl) (Jo (by simp[hpl2]))))
 obtain⟨_,z,c,y,A⟩:=xq1
 obtain⟨o,w,e,⟨_,i⟩,⟨_,k⟩,q⟩:=A
 subst e
 obtain⟨u,_,rfl,x,m⟩:=vals2 y
 cases x
 cases m
 obtain⟨_,_,B,g⟩:=c.tuple i
 obtain⟨_,_,v,_⟩:=c.list k
 have r:=B
 refine ZdD r v.isList fun _ g n l C E _ D=>wpAny_pyIter_zip g ⟨_,_,_,_,z,rfl,(c.kept (t':=j.toks) D),
  Zfc _ _ _ _ _ o w (zipApart_new (show o<j.heap.objs.size by obtain⟨_,e,_⟩:=r;exact Heap.lt_size e) v.lt),⟨g,n,⟨_,_,l⟩,C,E⟩,fun b t=>?_,q⟩
 have d:j.heap.objs.size<=b:=by
  simp[List.mem_cons,List.not_mem_nil,or_false]at t
  rcases t with rfl|rfl|rfl|rfl|rfl
  ·omega
  ·simp_all
  ·simp_all
  ·exact Nat.le_refl _
  ·simp_all
 exact c.fpOk d (c.hok.fresh d)
theorem Zho{K}{a c}{xs ys}{g:TG}{tb:TS}{D:Ends}{σ:St}{H:Hp}(Pv:Nat->St->Hp->Prop)(hlen:xs.length=ys.length)(h0:Pv 0 σ H)(hl:∀i σ H,i<=xs.length->Pv i σ H->SqT K H a xs/\SqL K H c ys)
  (hs:∀i x y σ H,xs[i]?=some x->ys[i]?=some y->Pv i σ H->∀T H1,Same H H1->H1 T=some (.tup [x,y])->g (.ref T) σ H1 fun σ2 H2=>tb {D with nx:=Pv (i+1),ct:=Pv (i+1),bk:=D.nx} σ2 H2) (hd:∀σ H,Pv xs.length σ H->D.nx σ H):
  ∃W:Nat->Nat->St->Hp->Prop,(∃m,W 0 m σ H)/\∀i m σ H,W i m σ H->
   ((Itz K a c).stop i H/\D.nx σ H)\/((Itz K a c).go i H/\∃N:St->Hp->Prop,(∀σ' H',N σ' H'->∃m',m'<m/\W (i+1) m' σ' H')/\∀x H',(Itz K a c).yld i H x H'->g x σ H' fun σ2 H2=>tb {D with nx:=N,ct:=N,bk:=D.nx} σ2 H2):=by
 refine⟨fun i m σ H=>m=xs.length-i/\i<=xs.length/\Pv i σ H,⟨xs.length,by simp,Nat.zero_le _,h0⟩,?_⟩
 rintro i m σ H ⟨rfl,k,p⟩
 obtain⟨h,d⟩:=hl i σ H k p
 by_cases b:i<xs.length
 ·refine .inr ⟨⟨xs,ys,xs[i],ys[i],h,d,by simp[b],by simp[(show i<ys.length by omega)]⟩,_,fun σ' H' n=>⟨_,by omega,rfl,b,n⟩,fun x H' y=>?_⟩
  obtain⟨T,u,v,rfl,o,rfl,l,j⟩:=y
  exact hs i u v σ H (l xs h) (j ys d) p T _ (Zz o) Zd
 ·have e:i=xs.length:=by omega
  subst e
  exact .inl ⟨⟨xs,ys,h,d,.inl (Nat.le_refl _)⟩,hd σ H p⟩
end L2
namespace PySem
open Sem (wp)
open PyProof.Rows
section
variable{prog:Program}{w:World}{A:Around}{R:Result->Shared->Prop}{I:Addr}{fp wr:List Addr}{n:Nat}{P:Nat->Value->Prop}{St:Nat->Heap->Prop}{d:Value}
theorem Ze7(W:Walks prog w A.in1 I fp wr n P St)(bt)(hcmp:CmpOf prog w A.in1 .Gt P bt)(S)(hSf:S ∉ fp):
  ∀(k j)(s)(vb)(c),n-(j+1)=k->j+1<=n->St (j+1) s.heap->P (argBest bt j) vb->
  s.heap.get? S=some {cls:= .type "list",dict:=none,data:= .seq #[vb,vb] c,slots:=#[]}->
  (∀v h' tk,P (argBest bt (n-1)) v->(∀b o,b ∉ wr->b≠S->s.heap.get? b=some o->h'.get? b=some o)->R (.ok (.ret v)) {s with heap:=h',toks:=tk})->
  codeAny (model prog w) A (.builtin "max.loop" ⟨[.ref I,.none,.ref S],[("default",d)]⟩) R s:=by
 have hSw:=fun h=>hSf (W.sub _ h)
 have hname:(toString "max"++toString ".loop")="max.loop":=by decide
 intro k
 induction k with
 |zero=>
  intro j s vb c hk hj hst hPb hS hR
  have hin:j+1=n:=by omega
  refine codeAny_builtin F.entry_max_loop (wpAny_bind (wpAny_seqItems hS rfl (wpAny_bind (wpAny_tryCatch (W.done s _ _ (hin▸hst) fun h' tk f=>?_)))))
  have l:=f S _ hSw hS
  refine wpAny_bind (wpAny_updateSeq l rfl (wpAny_bind (wpAny_letGo (wpAny_pure (hR vb _ tk (by rw[<-hin];exact hPb) fun b o a i e=>(Heap.get?_update_other _ _ (Ne.symm i)).trans (f b o a e))))))
 |succ k ih=>
  intro j s vb c hk hj hst hPb hS hR
  have hlt:j+1<n:=by omega
  refine codeAny_builtin F.entry_max_loop ?_
  rw[Around.under_plainId F.plain_max_loop _]
  refine wpAny_bind (wpAny_seqItems hS rfl (wpAny_bind (wpAny_tryCatch (W.item (j+1) s _ _ hlt hst fun v h' tk hP hst' f=>?_))))
  have l:=f S _ hSw hS
  show wpAny _ A.in1 (tryCatch (holding [v,v] (richCompare .Gt v vb>>=_)) _>>=_) _ _ _
  refine wpAny_bind (wpAny_tryCatch (wpAny_holding (wpAny_bind (hcmp (j+1) (argBest bt j) v vb _ _ _ hP hPb (wpAny_bind (wpAny_holding (wpAny_truthy_bool (wpAny_bind (wpAny_letGo (wpAny_pure ?_))))))))))
  cases hb:bt (j+1) (argBest bt j)with
  |true=>
   simp[if_true]
   refine wpAny_bind (wpAny_updateSeq l rfl (wpAny_bind (wpAny_letGo ?_)))
   rw[hname]
   refine wpAny_pure ⟨plainId_quiet F.plain_max_loop _,ih (j+1) _ v _ (by omega) hlt (W.frame _ _ _ hst' fun b hbf o e=>?_) (by simp[argBest,hb,if_true];exact hP) (Heap.get?_update_self _ l rfl)
    fun v' h'' tk'' hP' hk''=>?_⟩
   ·exact(Heap.get?_update_other _ _ (fun h:S=b=>hSf (by rw[h];exact hbf))).trans e
   ·exact hR v' h'' tk'' hP' fun b o a i e=>hk'' b o a i ((Heap.get?_update_other _ _ (Ne.symm i)).trans (f b o a e))
  |false=>
   simp[Bool.false_eq_true,if_false]
   refine wpAny_bind (wpAny_letGo ?_)
   rw[hname]
   exact wpAny_pure ⟨plainId_quiet F.plain_max_loop _,ih (j+1) _ vb c (by omega) hlt hst' (by simp[argBest,hb,Bool.false_eq_true,if_false];exact hPb) l fun v' h'' tk'' hP' hk''=>(hR v' h'' tk'' hP' fun b o a i e=>hk'' b o a i (f b o a e))⟩
theorem Zd3(W:Walks prog w A.in1 I fp wr n P St)(bt)(hcmp:CmpOf prog w A.in1 .Gt P bt)(S)(hSf:S ∉ fp)(hn:0<n){s}{c}(hst:St 0 s.heap)
  (hS:s.heap.get? S=some {cls:= .type "list",dict:=none,data:= .seq #[] c,slots:=#[]})
  (hR:∀v h' tk,P (argBest bt (n-1)) v->(∀b o,b ∉ wr->b≠S->s.heap.get? b=some o->h'.get? b=some o)->R (.ok (.ret v)) {s with heap:=h',toks:=tk}):
  codeAny (model prog w) A (.builtin "max.loop" ⟨[.ref I,.none,.ref S],[("default",d)]⟩) R s:=by
 refine codeAny_builtin F.entry_max_loop (wpAny_bind (wpAny_seqItems hS rfl (wpAny_bind (wpAny_tryCatch (W.item 0 s _ _ hn hst fun v h' tk t i g=>?_)))))
 have j:=g S _ (fun h=>hSf (W.sub _ h)) hS
 show wpAny _ _ (updateSeq S (fun _=>#[v,v])>>=_) _ _ _
 refine wpAny_bind (wpAny_updateSeq j rfl ?_)
 refine wpAny_pure ⟨plainId_quiet F.plain_max_loop _,Ze7 W bt hcmp S hSf _ 0 _ v _ rfl hn (W.frame _ _ _ i fun b p o e=>?_) t (Heap.get?_update_self _ j rfl) fun u r k q l=>?_⟩
 ·exact(Heap.get?_update_other _ _ (fun h:S=b=>hSf (by rw[h];exact p))).trans e
 ·exact hR u r k q fun b o m f e=>l b o m f ((Heap.get?_update_other _ _ (Ne.symm f)).trans (g b o m e))
theorem maxD_empty(W:Walks prog w A.in1 I fp wr n P St)(S)(hSf:S ∉ fp)(hn:n=0){s}{c}(hst:St 0 s.heap)
  (hS:s.heap.get? S=some {cls:= .type "list",dict:=none,data:= .seq #[] c,slots:=#[]})
  (hR:∀h' tk,(∀b o,b ∉ wr->s.heap.get? b=some o->h'.get? b=some o)->R (.ok (.ret d)) {s with heap:=h',toks:=tk}):
  codeAny (model prog w) A (.builtin "max.loop" ⟨[.ref I,.none,.ref S],[("default",d)]⟩) R s:=by
 subst hn
 exact codeAny_builtin F.entry_max_loop (wpAny_bind (wpAny_seqItems hS rfl (wpAny_bind (wpAny_tryCatch (W.done s _ _ hst fun h' tk a=>(wpAny_bind (wpAny_rule (wpAny_pure (hR h' tk a)))))))))
end
section
variable{prog:Program}{w:World}{A:Around}{E:Value->Shared->Prop}{s:Shared}
theorem Zgu(a v):argsOk "max" ⟨[a],[(Str.ofString "default",v)]⟩:=by kernel_rfl
theorem ZbT{x d}{Q}
  (h:wpAny (model prog w) A.in1 (pyIter x) (fun it s₂=>∃I fp wr n P St bt,it= .ref I/\Walks prog w A.in1 I fp wr n P St/\St 0 s₂.heap/\(∀b∈fp,b<s₂.heap.objs.size)/\CmpOf prog w A.in1 .Gt P bt/\
   (n=0->∀h' tk,(∀b o,b ∉ wr->s₂.heap.get? b=some o->h'.get? b=some o)->Q d {s₂ with heap:=h',toks:=tk})/\
   (0<n->∀v h' tk,P (argBest bt (n-1)) v->(∀b o,b ∉ wr->s₂.heap.get? b=some o->h'.get? b=some o)->Q v {s₂ with heap:=h',toks:=tk})) E s):
  wpAny (model prog w) A (call (.builtin "max") [x] [(Str.ofString "default",d)]) Q E s:=by
 refine kmk_tree F.kind_max F.plain_max F.entry_max (Zgu _ _) (wpAny_bind (wpAny_of_eq rfl (wpAny_bind (wpAny_pure (wpAny_bind (wpAny_mono h (fun it s₂ p=>?_) fun _ _ e=>e))))))
 obtain⟨I,fp,wr,n,P,St,bt,rfl,W,f,k,g,m,q⟩:=p
 refine wpAny_bind (wpAny_newObj_type ?_)
 have c:=fun r=>Nat.lt_irrefl _ (k _ r)
 rcases Nat.eq_zero_or_pos n with i|i
 ·refine wpAny_pure ⟨plainId_quiet F.plain_max_loop _,maxD_empty W s₂.heap.objs.size c i (W.frame _ _ _ f fun b _ o e=>Heap.get?_push_of_some _ e) (Heap.get?_push_size _ rfl) fun h' tk j=>?_⟩
  exact m i h' tk fun b o a e=>j b o a (Heap.get?_push_of_some _ e)
 ·refine wpAny_pure ⟨plainId_quiet F.plain_max_loop _,Zd3 W bt g s₂.heap.objs.size c i (W.frame _ _ _ f fun b _ o e=>Heap.get?_push_of_some _ e) (Heap.get?_push_size _ rfl) fun v h' tk l j=>?_⟩
  exact q i v h' tk l fun b o a e=>j b o a (Nat.ne_of_lt (Heap.lt_size e)) (Heap.get?_push_of_some _ e)
end
end PySem
namespace L2
open PySem PySem.Spec PyProof.Rows
def Zjy(K:PySem.W.Frag)(d:Int)(ta:TE):TE:=fun σ H Q=>ta σ H fun x H1=>∃p,∃ns,x= .ref p/\SqL K H1 p (ns.map V.int)/\∀M,((ns=[]/\M=d)\/(M∈ns/\∀a∈ns,a<=M))->Q (.int M) H1
theorem boot_max:bootBuiltins "max"=some (.builtin "max"):=by decide+kernel
theorem Za8{X}{a ed}{ta}{d}{p pos kpos}(hc:X.calm=true)(ha:PE X a ta)(hd:PE X ed (tC (.int d)))(hg:Gl X "max":=by rfl)(hm:X.mg "max"=none:=by rfl)(hs:starEach [a] X.env=[(false,eval a X.env)]:=by rfl):
  PE X (.Call (.Name "max" p) [a] [⟨some "default",ed,kpos⟩] pos) (Zjy X.K d ta):=by
 refine fun pins s σ H Q I h=>wpAny_Call_Name_kw (Yy I hg hm boot_max (callWith_kw (thn ((JV ha Za hs) _ _ s σ H (ZbF fun x y=>∃p,∃c:List _,x= .ref p/\SqL _ y p _/\∀M,((c=[]/\M=d)\/(M∈c/\∀a∈c,a<=M))->Q _ y) I h) fun us s1 xq1=>?_) (by rw[hs];rfl) (by rw[hs];rfl)))
 obtain⟨w,y,I1,r1,q1⟩:=xq1
 obtain⟨x1,rfl,q1⟩:=Jr q1
 obtain⟨u1,rfl,ru⟩:=vals1 r1
 obtain⟨l,c,rfl,hp,q⟩:=q1
 cases ru
 refine wpAny_evalAll_cons (wpAny_bind (thn (hd _ s1 σ y (fun v H2=>v= .int d/\H2=y) I1 ⟨rfl,rfl⟩) fun ud C⟨v2,H2,I2,r2,e1,r⟩=>wpAny_bind (wpAny_standAt (wpAny_pure (wpAny_evalAll_nil ?_)))))
 subst e1 r
 obtain⟨td,rfl⟩:=r2
 obtain⟨w,rv,pl,hz⟩:=I2.list hp
 have hl:=pl.isList
 have f:l<C.heap.objs.size:=by obtain⟨_,e,_⟩:=hl;exact Heap.lt_size e
 have g:w.length=c.length:=by have:=rv.length;simpa using this.symm
 have m:∀i v,w.toArray[i]?=some v->∃t,v=Value.int (c.getD i 0) t:=by
  intro i v e
  have hi:i<c.length:=by grind
  obtain⟨u,r,r2⟩:=rv.get (i:=i) (x:= .int c[i]) (by simp_all)
  rw[(show w[i]?=some v by simpa using e)]at r
  cases r
  obtain⟨t,rfl⟩:=r2
  exact⟨t,by simp_all⟩
 have k:∀(it)(B:Heap),(∀b o,b ∉ [C.heap.objs.size]->(C.heap.push it).get? b=some o->B.get? b=some o)->∀b o,C.heap.get? b=some o->B.get? b=some o:=fun it B z b o r=>z b o (fun hm=>by
  rw[List.mem_singleton.mp hm]at r
  exact Nat.lt_irrefl _ (Heap.lt_size r)) (Heap.get?_push_of_some _ r)
 refine ZbT (wpAny_pyIter_list hl ⟨_,_,_,_,_,_,_,rfl,Walks.list (A:=X.A.in1) (I2.ok.hd hc) _ l (Nat.ne_of_lt f) w.toArray,⟨⟨_,Heap.get?_push_size _ rfl,rfl,rfl⟩,hl.push _⟩,fun b hb=>?_,CmpOf.ints_gt (fun i=>c.getD i 0) m,fun hn B tk z=>?_,fun hn v B tk hP z=>?_⟩)
 ·rw[Heap.size_push]
  simp[List.mem_cons,List.not_mem_nil,or_false]at hb
  rcases hb with rfl|rfl
  ·exact Nat.lt_succ_self _
  ·exact Nat.lt_succ_of_lt f
 ·rw[List.size_toArray,g]at hn
  exact⟨.int d,_,I2.kept (t':=tk) (k _ _ z),⟨td,rfl⟩,q d (.inl ⟨List.length_eq_zero_iff.mp hn,rfl⟩)⟩
 ·obtain⟨t,rfl⟩:=m _ _ hP
  obtain⟨h1,h2⟩:=argBest_gt (fun i=>c.getD i 0) (w.toArray.size-1)
  rw[List.size_toArray,g]at h1 h2 hn
  rw[List.size_toArray,g]
  refine⟨.int _,_,I2.kept (t':=tk) (k _ _ z),⟨t,rfl⟩,q _ (.inr ⟨?_,fun a ha=>?_⟩)⟩
  ·have f:argBest (fun i j=>decide (c.getD i 0>c.getD j 0)) (c.length-1)<c.length:=by omega
   rw[List.getD_eq_getElem?_getD,List.getElem?_eq_getElem f]
   exact List.getElem_mem f
  ·obtain⟨j,hj,rfl⟩:=List.getElem_of_mem ha
   have:=h2 j (by omega)
   rw[List.getD_eq_getElem?_getD (i:=j),List.getElem?_eq_getElem hj]at this
   exact this
section
variable{X:Cx}
inductive gGetL(o:V)(i:V)(H:Hp)(Q:VK):Prop
 |mk (p xs:_) (k:Nat) (v:_) (_:o= .ref p) (_:i= .int (k:Int)) (_:H p=some (.lst xs)) (_:xs[k]?=some v) (_:Q v H)
theorem ZcQ:Zli X gGetL:=by
 intro pins s σ H o i ov iv Q I ro ri h
 obtain⟨p,xs,k,v,rfl,rfl,hp,hv,q⟩:=h
 cases(show ov=Value.ref p from ro)
 obtain⟨t,rfl⟩:=ri
 obtain⟨its,r,pl,hz⟩:=I.list (SqL.of (K:=X.K) hp)
 obtain⟨w,ew,rw'⟩:=r.get hv
 have hk:k<xs.length:=(List.getElem?_eq_some_iff.mp hv).1
 have hn:=Zat
 exact wpAny_getItem_list pl.isList (Int.natCast_nonneg k) (by omega) (by rw[Int.toNat_natCast];simpa using ew) ⟨v,H,I,rw',q⟩
def rSetN:V->V->V->Hp->(Hp->Prop)->Prop:=fun o i v H Q=>∃p xs,∃k:Nat,o= .ref p/\i= .int (k:Int)/\H p=some (.lst xs)/\k<xs.length/\Q (upd H p (.lst (xs.set k v)))
theorem ZU:ZhA X rSetN:=by
 intro pins s σ H o i v ov iv u Q I ro ri rv h
 obtain⟨p,xs,k,e1,e2,hp,hk,q⟩:=h
 refine set_list pins s σ H o i v ov iv u Q I ro ri rv ⟨p,xs,k,k,e1,e2,hp,?_,q⟩
 unfold ixN
 rw[if_pos (Int.natCast_nonneg k),if_pos (by omega),Int.toNat_natCast]
end
theorem ZhN{X}{scope}{cl}{N}{bs}{tg iter elt}{ifs}{pos spos px}{x}{wi}{g gt}{tt}{te}(B:Blk X scope cl N bs)(hc:X.calm=true)
  (hi:PI X tg iter wi)(hg:∀C fp s H,PG (ZA X scope cl C N fp s H) tg g) (ht:∀C fp s H,PTs (ZA X scope cl C N fp s H) ifs tt) (he:∀C fp s H,PE (ZA X scope cl C N fp s H) elt te)
  (hgt:PG X (.Name x px) gt) (hsw:swapsWith (.ListComp elt [⟨tg,iter,ifs,0⟩] scope pos) (some (.Name x px)) spos.line X.env=pure true)
  (hs:∀x,foldedSetIterable iter X.env x=pure x:=by intro _;rfl):
  PS X (.Assign [.Name x px] (.ListComp elt [⟨tg,iter,ifs,0⟩] scope pos) spos) (Zet (tLC bs wi g tt te) gt):=by
 intro j s σ H D I h
 rw[exec_Assign_Name_used _ _ _ _ hsw]
 refine wpAny_bind (wpAny_standAt (wpAny_bind (wpAny_bind (wpAny_mono (wpAny_comprehension_free (use:=some (assign (.Name x px) X.env)) (Q:=fun _ s'=>∃σ' O,Inv X j σ' O s'/\D.nx σ' O) rfl hs B.clos B.kind B.names (thn (hi j s σ H _ I h) fun v s1 h1=>thn h1 fun itv a h2=>?_)) (fun _ s' hq=>wpAny_pure (wpAny_pure hq)) fun _ _ e=>e))))
 obtain⟨it,fp,tn,J,H2,rfl,I2,T,t,f2,W,⟨m0,w0⟩,turn⟩:=h2
 refine wpAny_newObj_type (wpAny_newFunctionEnv B.cell (by intro y hy;simp at hy) (fun h₁ hns₁ S=>?_) B.kind)
 generalize hG:a.heap.push {cls:= .type "list",dict:=none,data:= .seq ([]:List Value).toArray}=G at hns₁ S⊢
 have hC:G.objs.size=a.heap.objs.size+1:=by rw[<-hG,Heap.size_push]
 have hDC:a.heap.objs.size≠G.objs.size:=by rw[hC];exact Nat.ne_of_lt (Nat.lt_succ_self _)
 have L:a.heap.objs.size<=G.objs.size:=by rw[hC];exact Nat.le_succ _
 have old:=fun b o e=>S.extBut b o (by rw[hC];exact Nat.ne_of_lt (Nat.lt_succ_of_lt (Heap.lt_size e))) (Heap.get?_push_of_some _ (hG▸Heap.get?_push_of_some _ e))
 have R:∀{D:Addr}{o:Obj}{O:Hp},a.heap.objs.size<=D->(∀b∈fp,O b=none)->∀b∈fp,FpOk (ZA X scope cl G.objs.size N fp a H2) [(D,o)] O b:=fun{D o O} hD hn b f=>by
  obtain⟨ob,eb,_⟩:=T.obj _ _ t b f
  obtain⟨_,f1,f3,f4,f5,_⟩:=f2 b f
  have ok:=B.ok I2 f2 (T.obj _ _ t) (C:=G.objs.size) L
  refine⟨hn b f,(ok.exf b f).1,ok.exfs b f,.inl f,(ok.exf b f).2,fun p hp=>?_⟩
  have e:p=(D,o):=by simpa[ZA]using hp
  subst e
  exact Nat.ne_of_gt (Nat.lt_of_lt_of_le (Heap.lt_size eb) hD)
 have loop:∀s₃:Shared,s₃={a with heap:=h₁,toks:=a.toks+([]:List (Str×Value)).length}->
   codeAny (model X.prog X.w) X.A (.compLoop (.ListComp elt [⟨tg,iter,ifs,0⟩] scope pos) 0 (.ref it) (.ref a.heap.objs.size) (compEnvC scope cl G.objs.size X.env))
    (compPost (model X.prog X.w) X.A X.xe (some (assign (.Name x px) X.env)) (fun _ s'=>∃σ' O,Inv X j σ' O s'/\D.nx σ' O) (.ref a.heap.objs.size) G.objs.size) s₃:=by
  rintro s₃ rfl
  refine Y7 (fun n s'=>∃i P l k σ' O,Inv (ZA X scope cl G.objs.size N fp a H2) [(a.heap.objs.size,{cls:= .type "list",data:= .seq (List.toArray l) k})] σ' O s'/\Vals P l/\tn i s'.heap/\(∀b∈fp,O b=none)/\W i n P σ' O) ?_ m0
   ⟨0,[],[],0,bst bs σ,H2,B.inv I2 f2 (T.obj _ _ t) L old hns₁ (S.extBut _ _ hDC (Heap.get?_push_of_some _ (hG▸Heap.get?_push_size _ rfl))) (Nat.le_refl _) hDC (fun v z=>nomatch z),.nil,T.keep _ _ _ t fun b _ o e=>old b o e,fun b f=>(f2 b f).1,w0⟩
  rintro n s3 ⟨i,P,l,k,σ3,M,I3,rv,st3,fr3,w3⟩
  rcases turn i n P σ3 M w3 with⟨stop,hz,qn⟩|⟨go,hz,NN,hNN,step⟩
  ·refine thn (T.done (ZA X scope cl G.objs.size N fp a H2) rfl rfl rfl hc i _ s3 σ3 M (fun _ _=>False) I3 (R (Nat.le_refl _) fr3) st3 stop) fun r s4 xq1=>?_
   obtain⟨hr,I4⟩:=xq1
   subst hr
   have pD4:=I4.pin _ (List.mem_append_right _ (.head _))
   obtain⟨m4,hn4,_⟩:=I4.loc
   have k5:∀b o,b≠G.objs.size->s4.heap.get? b=some o->s4.heap.get? b=some o:=fun b o f e=>e
   have hC4:M G.objs.size=none:=I4.free
   have hok5:HOk X.prog X.w (upd M a.heap.objs.size (.lst P)) s4.heap:=fun b u e=>by
    by_cases f:b=a.heap.objs.size
    ·subst f
     rw[Zd]at e
     cases e
     exact⟨hz,l,k,rv,(pD4.1)⟩
    ·rw[Zf f]at e
     have nC:∀c u',M c=some u'->c≠G.objs.size:=fun c u' q z=>by rw[z,hC4]at q;cases q
     have nD:∀c u',M c=some u'->c≠a.heap.objs.size:=fun c u' q z=>by rw[z,pD4.2.1]at q;cases q
     refine(I4.hok b u e).stay (fun c v hc' q=>k5 c v ?_ q) (fun c q=>by rw[Zf (nD c _ q)];exact q) fun c xs q=>by rw[Zf (nD c _ q)];exact q
     rcases hc' with z|z
     ·rw[z];exact nC b u e
     ·exact nC c _ z
   have E:Un (frs X.stack) fp H2 M a.heap s4.heap:=I4.base
   have neC:∀b o,a.heap.get? b=some o->b≠G.objs.size:=fun b o e=>Nat.ne_of_lt (Nat.lt_of_lt_of_le (Heap.lt_size e) L)
   have un5:Un (frs X.stack) fp H2 (upd M a.heap.objs.size (.lst P)) a.heap s4.heap:={
    keep:=fun b o e n f hx=>k5 b o (neC b o e) (E.keep b o e n f hx)
    slot:=fun b o e n f hx=>let⟨sl,q⟩:=E.slot b o e n f hx;⟨sl,k5 b _ (neC b o e) q⟩
    free:=fun b o e n hx=>by rw[Zf ((show∀b o,a.heap.get? b=some o->b≠a.heap.objs.size from fun b o e=>Nat.ne_of_lt (Heap.lt_size e)) b o e)];exact E.free b o e n hx
    there:=fun b o e hx=>let⟨o',q⟩:=E.there b o e hx;⟨o',k5 b _ (neC b o e) q⟩
    tups:=fun b xs e=>by rw[Zf (Zk e (I2.hok.fresh (Nat.le_refl _)))];exact E.tups b xs e
    frzs:=fun b o u e=>by rw[Zf (Zk e (I2.hok.fresh (Nat.le_refl _)))];exact E.frzs b o u e
    tbls:=fun b ps e=>by rw[Zf (Zk e (I2.hok.fresh (Nat.le_refl _)))];exact E.tbls b ps e}
   have IE:Inv X j σ (upd M a.heap.objs.size (.lst P)) s4:=I2.call' (s':=s4) (I4.os) un5 hok5 I4.bare (fun b f=>by
    obtain⟨_,f1,f3,f4,f5,f6⟩:=f2 b f
    exact⟨f4,f1,f5,f6⟩)
   have hnC:(upd M a.heap.objs.size (.lst P)) G.objs.size=none:=by rw[Zf (Ne.symm hDC)];exact hC4
   obtain⟨_,c1,c2,c3,c4,c5⟩:FpOk X j (upd M a.heap.objs.size (.lst P)) G.objs.size:=I2.fpOk L hnC
   obtain⟨oC,es4,ep4,hoC,rC⟩:=hn4
   have IP:Inv X (j++[(G.objs.size,oC)]) σ (upd M a.heap.objs.size (.lst P)) s4:=IE.pins_of fun p hp=>by
    rcases List.mem_append.mp hp with z|z
    ·exact IE.pin p (List.mem_append_right _ z)
    ·rw[List.mem_singleton.mp z]
     exact⟨hoC,hnC,c1,c2,fun v z=>by rw[rC.1]at z;cases z⟩
   refine thn (hgt (j++[(G.objs.size,oC)]) s4 σ _ (.ref a.heap.objs.size) (.ref a.heap.objs.size) _ IP rfl (qn _ pD4.2.1)) fun _ s6 xq1=>?_
   obtain⟨σ6,H6,I6,q6⟩:=xq1
   have pC:=I6.pin (G.objs.size,oC) (List.mem_append_right _ (List.mem_append_right _ (.head _)))
   refine⟨m4,⟨oC,es4,ep4,pC.1,rC⟩,fun h7 sb7=>⟨σ6,H6,I6.unpinned.turned (it:=G.objs.size) (t':=s6.toks) (fun b o f e=>sb7.extBut b o f e) pC.2.1 c1 c3 c4 c5,q6⟩⟩
  ·refine thn (T.item (ZA X scope cl G.objs.size N fp a H2) rfl rfl rfl hc i _ s3 σ3 M (fun _ _=>False) I3 (R (Nat.le_refl _) fr3) st3 go) fun r s4 xq1=>?_
   obtain⟨u,hr,h4⟩:=xq1
   subst hr
   refine thn h4 fun _ s5⟨x,H5,I5,r5,y5,st5,fr5⟩=>thn (hg _ _ _ _ _ s5 σ3 H5 x u _ (I5.pinned (R (Nat.le_refl _) fr5) (T.obj _ _ st5)) r5 (step x H5 y5)) fun _ s6⟨σ6,H6,I6,q6⟩=>thn (ht _ _ _ _ _ s6 σ6 H6 _ I6 q6) fun ok s7 xq1=>?_
   obtain⟨H7,I7,q7⟩:=xq1
   have K:∀{σ8:St}{H8:Hp}{s8:Shared}{pl:List (Addr×Obj)},Inv (ZA X scope cl G.objs.size N fp a H2) (pl++Y4 fp s5.heap) σ8 H8 s8->tn (i+1) s8.heap/\∀b∈fp,H8 b=none:=fun{σ8 H8 s8 pl} I8=>
    ⟨T.keep _ _ _ st5 fun b f o e=>(I8.pin (b,o) (List.mem_append_right _ (List.mem_append_right _ (Yx f e)))).1,fun b f=>by
     obtain⟨o,e,d⟩:=T.obj _ _ st5 b f
     exact(I8.pin (b,o) (List.mem_append_right _ (List.mem_append_right _ (Yx f e)))).2.1⟩
   cases ok with
   |false=>
    rw[if_neg Bool.false_ne_true]at q7⊢
    obtain⟨m',hm,w7⟩:=hNN _ _ _ q7
    exact⟨m',hm,i+1,P,l,k,σ6,H7,I7.unpinned,rv,(K I7).1,(K I7).2,w7⟩
   |true=>
    rw[if_pos rfl]at q7⊢
    refine thn (he _ _ _ _ _ s7 σ6 H7 _ I7 q7) fun y s8 xq1=>?_
    obtain⟨v8,H8,I8,r8,q8⟩:=xq1
    obtain⟨m',hm,w8⟩:=hNN _ _ _ q8
    have F:=I8.pin _ (List.mem_append_right _ (List.mem_append_left _ (.head _)))
    have hl:=rv.length
    refine wpAny_list_append_plain ⟨k,F.1⟩ (fun h9 pl9 sb9=>?_) (by rw[List.size_toArray];omega)
    obtain⟨k9,e9⟩:=pl9
    have I9:Inv (ZA X scope cl G.objs.size N fp a H2) (Y4 fp s5.heap) σ6 H8 {s8 with heap:=h9}:=(show Inv (ZA X scope cl G.objs.size N fp a H2) (Y4 fp s5.heap) σ6 H8 s8 from I8.pins_of fun p hp=>I8.pin p (List.mem_append_right _ (List.mem_append_right _ hp))).turned (it:=a.heap.objs.size) (t':=s8.toks) (fun b o f e=>sb9.extBut b o f e) F.2.1 F.2.2.1 (.inr (Nat.le_refl _))
     (fun x c e z=>by
      obtain⟨vc,oc,hoc,hd⟩:=I8.cell x c e
      rw[z,F.1]at hoc
      cases hoc
      cases hd)
     fun p hp z=>by
      obtain⟨q1,q2⟩:=Zaq (show p∈Y4 fp s5.heap by simpa[ZA]using hp)
      obtain⟨ob,eb,_⟩:=T.obj _ _ t p.1 q1
      exact Nat.lt_irrefl _ (by have:=Heap.lt_size eb;rw[z]at this;exact this)
    have hk9:∀b∈fp,∀o,s8.heap.get? b=some o->h9.get? b=some o:=fun b f o e=>sb9.extBut b o (fun z=>by
     obtain⟨ob,eb,_⟩:=T.obj _ _ t b f
     exact Nat.lt_irrefl _ (by have:=Heap.lt_size eb;rw[z]at this;exact this)) e
    refine⟨m',hm,i+1,P++[v8],l++[y],k9,σ6,H8,I9.pins_of fun p hp=>?_,rv.append (.cons r8 .nil),T.keep _ _ _ (K I8).1 hk9,(K I8).2,w8⟩
    have e:p=(a.heap.objs.size,{cls:= .type "list",data:= .seq (List.toArray (l++[y])) k9}):=by simpa using hp
    subst e
    exact⟨(show h9.get? a.heap.objs.size=some {cls:= .type "list",data:= .seq (List.toArray (l++[y])) k9} by rw[e9];simp),F.2.1,F.2.2.1,F.2.2.2.1,fun v z=>nomatch z⟩
 exact codeAny_compStart_list (loop _ rfl) (T.self _ 0 _ _ _ (T.keep _ _ _ t fun b _ o e=>old b o e) (loop _ rfl))
theorem Zi1{X}{scope}{cl}{N}{bs}{tg a elt}{ifs}{p pos' pos spos px}{x}{ta}{g gt}{tt}{te}(B:Blk X scope cl N bs)(hc:X.calm=true)
  (hgl:Gl X "range")(hmr:X.mg "range"=none)(ha:PA X [a] ta)(hm:Zah ta)(hpl:ZV a=true)(hg:∀C fp s H,PG (ZA X scope cl C N fp s H) tg g) (ht:∀C fp s H,PTs (ZA X scope cl C N fp s H) ifs tt) (he:∀C fp s H,PE (ZA X scope cl C N fp s H) elt te)
  (hgt:PG X (.Name x px) gt) (hsw:swapsWith (.ListComp elt [⟨tg,.Call (.Name "range" p) [a] [] pos',ifs,0⟩] scope pos) (some (.Name x px)) spos.line X.env=pure true)
  (hs:∀x,foldedSetIterable (.Call (.Name "range" p) [a] [] pos') X.env x=pure x:=by intro _;rfl):PS X (.Assign [.Name x px] (.ListComp elt [⟨tg,.Call (.Name "range" p) [a] [] pos',ifs,0⟩] scope pos) spos) (Zet (Zj1 bs ta g tt te) gt):=by
 refine fun b s σ H D I h=>@ZhN X scope cl N bs tg _ elt ifs pos spos px x (ZhU ta) g gt tt te B hc (@Yi X tg a ta p pos' hgl hmr ha (Yb hpl)) hg ht he hgt hsw hs b s σ H D I (hm σ H _ _ (fun _ d h=>?_) h)
 obtain⟨n,e,j,q,i,k,m,o⟩:=h
 exact⟨n,e,by omega,by omega,ZcM (Q:=fun x d=>gt x σ d D.nx) q (YI j) i k m fun l σ H f p c=>o l σ H f p _ (Zz c) Zd⟩
end L2
namespace PySem
open Sem (wp)
open PyProof.Rows
section
variable{prog:Program}{w:World}{A:Around}{E:Value->Shared->Prop}{s:Shared}
theorem Zhe:typeLookup (.type "list_reverseiterator") "__len__"=pure none:=by kernel_rfl
theorem ZfJ:typeLookup (.type "list_reverseiterator") "__length_hint__"=pure (some (.builtin "list_reverseiterator.__length_hint__")):=by kernel_rfl
theorem ZfR{it l}{i}{Q}(hit:s.heap.IsRevIter it l i)(h:Q false s):wpAny (model prog w) A (Builtin.List.listLengthHint (.ref it)) Q E s:=by
 have e:=Heap.IsRevIter.typeIs hit
 refine wpAny_bind (wpAny_specialOf e Zhe (wpAny_bind (wpAny_specialOf e ZfJ ?_)))
 generalize d:("list_reverseiterator.__length_hint__")=id0
 wp_delta
 subst d
 exact wpAny_bind (wpAny_isInstance (b:=true) e (by kernel_rfl) (wpAny_ite_split (fun a=>absurd a (by decide)) (fun _=>wpAny_ite_split (fun _=>(wpAny_ite_split (fun a=>absurd a (by decide+kernel)) (fun _=>wpAny_pure h))) (fun a=>absurd (by decide+kernel) a))))
theorem Zd9{R:Result->Shared->Prop}{it l}{items}(hh:A.handled=none)(hne:l≠it)(hit:s.heap.IsRevIter it l ((items.size:Int)-1))(hl:s.heap.IsList l items)(hlen:items.size<=sizeLine)
  (S)(hSl:S≠l)(res:Value)(c₀:Nat)(hS:s.heap.get? S=some {cls:= .type "list",data:= .seq #[] c₀})
  (hR:∀h' tk acc' c',(∀b o,b≠S->b≠it->s.heap.get? b=some o->h'.get? b=some o)->h'.get? S=some {cls:= .type "list",dict:=none,data:= .seq acc' c',slots:=#[]}->
   ItemsOf (fun i v=>items[items.size-1-i]?=some v) acc' items.size->R (.ok (.ret res)) {s with heap:=h',toks:=tk}):
  wpAny (model prog w) A.in1 (Builtin.List.listExtendWith (.ref S) (.ref it) res)
   (fun fin s'=>match fin with| .done f=>R (.ok f) s'| .again c'=>c'.quiet=true/\codeAny (model prog w) A c' R s') (fun e s'=>R (.error e) s') s:=by
 have h:S≠it:=fun e=>by
  obtain⟨o,_,_,_⟩:=hit
  grind
 have k:S ∉ [it,l]:=fun g=>by
  grind
 refine wpAny_bind (wpAny_typeOf (T:="list_reverseiterator") (Heap.IsRevIter.typeIs hit) ?_)
 simp[(show Builtin.List.listSameRef (.ref S) (.ref it)=false by simp[Builtin.List.listSameRef,h]),(show(Value.type "list_reverseiterator"==Value.type "list")=false by decide),(show(Value.type "list_reverseiterator"==Value.type "tuple")=false by decide),Bool.or_false,Bool.false_eq_true,if_false]
 refine wpAny_bind (wpAny_pyIter_revIter hit (wpAny_bind (wpAny_holding (ZfR hit (wpAny_ite_split (fun d=>absurd d (by decide)) (fun _=>wpAny_pure ⟨plainId_quiet F.plain_extend_loop _,codeAny_extend_loopS ((Walks.listRev (prog:=prog) (w:=w) (A:=A.in1) hh it l hne items).toS) hlen S k res items.size 0 _ #[] c₀ rfl (Nat.zero_le _) ⟨Nat.zero_le _,by simpa using hit,hl⟩ hS (ItemsOf.nil _) fun s' acc' c' g j c=>?_⟩))))))
 rw[Moved.eq_with g]
 refine hR s'.heap s'.toks acc' c' (fun b o _ _ e=>g.heap b o (fun _=>?_) e) j c
 grind
theorem Zby{R:Result->Shared->Prop}{it l}{items}(hh:A.handled=none)(hne:l≠it)(hit:s.heap.IsRevIter it l ((items.size:Int)-1))(hl:s.heap.IsList l items)(hlen:items.size<=sizeLine)
  (S)(hSl:S≠l)(hSr:S≠it)(hS:s.heap.get? S=some {cls:= .type "list",data:= .seq #[]})
  (hR:∀h' tk acc' c',(∀b o,b≠S->b≠it->s.heap.get? b=some o->h'.get? b=some o)->h'.get? S=some {cls:= .type "list",dict:=none,data:= .seq acc' c',slots:=#[]}->
   ItemsOf (fun i v=>items[items.size-1-i]?=some v) acc' items.size->R (.ok (.ret .none)) {s with heap:=h',toks:=tk}):
  wpAny (model prog w) A.in1 (Builtin.«list.__init__» ⟨[.ref S,.ref it],[]⟩)
   (fun fin s'=>match fin with| .done f=>R (.ok f) s'| .again c'=>c'.quiet=true/\codeAny (model prog w) A c' R s') (fun e s'=>R (.error e) s') s:=by
 refine wpAny_bind (wpAny_bind (wpAny_seqItems hS rfl (wpAny_pure (wpAny_bind (wpAny_updateSeq hS rfl ?_)))))
 have a:∀b o,b≠S->s.heap.get? b=some o->(s.heap.update S (Obj.mapSeq (fun _=>(#[]:Array Value)))).get? b=some o:=
  fun b o d e=>(Heap.get?_update_other _ _ (Ne.symm d)).trans e
 refine wpAny_bind (wpAny_letGo (Zd9 hh hne (hit.at fun o e=>a it o (Ne.symm hSr) e) (hl.at fun o e=>a l o (Ne.symm hSl) e) hlen S hSl .none _ (Heap.get?_update_self (Obj.mapSeq (fun _=>(#[]:Array Value))) hS rfl) fun h' tk acc' c' j g c=>?_))
 exact hR h' tk acc' c' (fun b o d h e=>j b o d h (a b o d e)) g c
theorem Zb4{Q}{it l}{items}(hh:A.handled=none)(hne:l≠it)(hit:s.heap.IsRevIter it l ((items.size:Int)-1))(hl:s.heap.IsList l items)(hlen:items.size<=sizeLine)
  (hQ:∀h' tk acc' c',(∀b o,b≠it->s.heap.get? b=some o->h'.get? b=some o)->
   h'.get? s.heap.objs.size=some {cls:= .type "list",dict:=none,data:= .seq acc' c',slots:=#[]}->ItemsOf (fun i v=>items[items.size-1-i]?=some v) acc' items.size->Q (.ref s.heap.objs.size) {s with heap:=h',toks:=tk}):
  wpAny (model prog w) A (call (.type "list") [.ref it]) Q E s:=by
 refine callType_codes (Q₁:=fun a g=>a= .ref s.heap.objs.size/\g={s with heap:=s.heap.push {cls:= .type "list",data:= .seq #[]}}) F.called_list (F.typeCall_list_1 _) F.entry_list_init
  (code_list_new _ ⟨rfl,rfl⟩) fun a g m=>?_
 obtain⟨rfl,rfl⟩:=m
 have h:(s.heap.push _).get? _=some {cls:= .type "list",data:= .seq #[]}:=Heap.get?_push_size _ rfl
 refine⟨⟨_,h,rfl⟩,F.args_list_init_2 _ _,Zby (A:=A.in1) hh hne (hit.at fun o e=>Heap.get?_push_of_some _ e) (hl.push _) hlen s.heap.objs.size (Nat.ne_of_gt (show l<s.heap.objs.size by obtain⟨o,d,_⟩:=hl;exact Heap.lt_size d)) (Nat.ne_of_gt (show it<s.heap.objs.size by obtain⟨o,d,_⟩:=hit;exact Heap.lt_size d)) h fun h' tk acc' c' j f c=>?_⟩
 exact⟨rfl,hQ h' tk acc' c' (fun b o k e=>j b o (Nat.ne_of_lt (Heap.lt_size e)) k (Heap.get?_push_of_some _ e)) f c⟩
end
end PySem
namespace L2
open PySem PySem.Spec PyProof.Rows
theorem boot_list:bootBuiltins "list"=some (.type "list"):=by decide+kernel
theorem Zgn:bootBuiltins "reversed"=some (.type "reversed"):=by decide+kernel
def Zlm(K:PySem.W.Frag)(ta:TE):TE:=fun σ H Q=>ta σ H fun x H1=>∃l xs,x= .ref l/\SqL K H1 l xs/\∀d H',Same H1 H'->H' d=some (.lst xs.reverse)->Q (.ref d) H'
theorem Zdw{X}{a}{ta}{p1 p2 pos1 pos2}(hc:X.calm=true)(ha:PE X a ta)(hg:Gl X "list":=by rfl)(hm:X.mg "list"=none:=by rfl)(hg2:Gl X "reversed":=by rfl)(hm2:X.mg "reversed"=none:=by rfl)(hpl:ZV a=true:=by rfl):
  PE X (.Call (.Name "list" p1) [.Call (.Name "reversed" p2) [a] [] pos2] [] pos1) (Zlm X.K ta):=by
 refine fun n s σ H Q I h=>wpAny_Call_Name_kw (Yy I hg hm boot_list (callWith_type1 (Calls.spliced_cons ?_) rfl rfl))
 refine wpAny_Call_Name_kw (Yy I hg2 hm2 Zgn (callWith_type1 (thn ((Zc ha Za hpl) pos2 n s σ H (ZbF fun x w=>∃l p,x= .ref l/\SqL X.K w l p/\∀d z,Same w z->z d=some (.lst p.reverse)->Q (.ref d) z) I h) fun us s1 xq1=>?_) (Yb hpl) rfl))
 obtain⟨m,w,r,r1,t⟩:=xq1
 obtain⟨x1,rfl,t⟩:=Jr t
 obtain⟨u1,rfl,ru⟩:=vals1 r1
 obtain⟨l,p,rfl,hp,q⟩:=t
 cases ru
 obtain⟨m,rv,pl,hz⟩:=r.list hp
 have v:=pl.isList
 have g:=rv.length
 refine call_reversed_list v (Calls.spliced_nil (Zb4 (items:=m.toArray) (r.ok.hd hc) (Nat.ne_of_lt (show l<s1.heap.objs.size by obtain⟨_,e,_⟩:=v;exact Heap.lt_size e)) ⟨_,Heap.get?_push_size _ rfl,rfl,rfl⟩ (v.push _) (by grind) fun h' tk f c' kp e2 it=>?_))
 obtain⟨i1,i2⟩:=it
 have hv:=Jj (by rw[List.length_reverse,Array.length_toList];exact g.trans i1.symm) fun i x u y e4=>by
  have hi:i<p.length:=by
   have:=(List.getElem?_eq_some_iff.mp y).1
   rwa [List.length_reverse]at this
  rw[List.getElem?_reverse hi]at y
  obtain⟨u',g1,g2⟩:=rv.get y
  rw[g,(show m[m.length-1-i]?=some u by simpa using(i2 i u (show f[i]?=some u by simpa using e4)))]at g1
  cases g1
  exact g2
 refine⟨.ref _,_,r.laid (t':=tk) (o:= .lst p.reverse) (a:=(s1.heap.push (revObj l (m.toArray.size-1))).objs.size) (fun b o e=>kp b o (Nat.ne_of_lt (Heap.lt_size e)) (Heap.get?_push_of_some _ e)) (by simp_all) ?_,rfl,q _ _ (Zz (r.hok.fresh (by simp_all))) Zd⟩
 exact⟨by grind,f.toList,c',hv,by rw[e2]⟩
end L2
namespace SetI
open PySem PySem.Spec PyProof.Rows
section
variable{prog:Program}{w:World}{A:Around}{E:Value->Shared->Prop}{s:Shared}
theorem call_set_tupI{l:Addr}{items:Array _}{ns:List _}{Q:Value->Shared->Prop}
  (hh:A.handled=none)(hl:s.heap.IsTuple l items)(hi:PyProof.Rows.IntsAre items.toList ns)(hb:items.size+1<scanBound)
  (h:∀(h':Heap)(tk:Nat),h'.SetOf (intKind prog w) s.heap.objs.size (fun k'=>(PyProof.Rows.firstMet (fun i=>ns.getD i 0) items.size).any (·==k')) (PyProof.Rows.firstMet (fun i=>ns.getD i 0) items.size).length->
   (∀b o,b<s.heap.objs.size->s.heap.get? b=some o->h'.get? b=some o)->Q (.ref s.heap.objs.size) {s with heap:=h',toks:=tk}):
  wpAny (model prog w) A (call (.type "set") [.ref l]) Q E s:=by
 obtain⟨c,tl,hmro⟩:=F.called_set.mro
 have hmade:=F.called_set.made
 have hsub:=F.called_set.sub
 refine wpAny_call (codeAny_of_tree (wpAny_pure ⟨Code.quiet_builtin _ (by decide+kernel),codeAny_builtin F.entry_type_call ?_⟩))
 rw[Around.under_plain (weight_type_call_type "set" [.ref l] []) rfl]
 have h1:=F.called_set.notType
 have h2:=F.called_set.canCreate
 have hct:=F.typeCall_set_1 (.ref l)
 repeat (any_goals (first|assumption|wp_step))
 refine codeAny_mono (code_set_new_1 (.ref l) (E:=E) (Q₁:=fun obj s₁=>∃led:Bool,obj= .ref s.heap.objs.size/\s₁={s with heap:=s.heap.push {cls:= .type "set",dict:=none,data:= .set #[] 0 (.fresh 0 0 led)}}) fun led=>⟨led,rfl,rfl⟩) fun r s₁ hr=>?_
 cases r with
 |error e=>exact hr
 |ok fl=>
  cases fl with
  |ret obj=>
   obtain⟨led,rfl,rfl⟩:=hr
   have hS:(s.heap.push {cls:= .type "set",dict:=none,data:= .set #[] 0 (.fresh 0 0 led)}).get? s.heap.objs.size=some {cls:= .type "set",dict:=none,data:= .set #[] 0 (.fresh 0 0 led)}:=Heap.get?_push_size _ rfl
   have hT:Shared.TypeIs {s with heap:=s.heap.push {cls:= .type "set",dict:=none,data:= .set #[] 0 (.fresh 0 0 led)}} (.ref s.heap.objs.size) "set":=⟨_,hS,rfl⟩
   have hli:=F.called_set.init.lookup
   have hbi:=F.called_set.init.bind (.ref s.heap.objs.size)
   repeat (any_goals (first|assumption|wp_step))
   refine codeAny_mono (codeAny_call_builtin (R:=wants (fun r s₂=>r= .none/\∃h' tk,s₂={s with heap:=h',toks:=tk}/\
     h'.SetOf (intKind prog w) s.heap.objs.size (fun k'=>(PyProof.Rows.firstMet (fun i=>ns.getD i 0) items.size).any (·==k')) (PyProof.Rows.firstMet (fun i=>ns.getD i 0) items.size).length/\
     (∀b o,b<s.heap.objs.size->s.heap.get? b=some o->h'.get? b=some o)) E) F.called_set.init.plain F.entry_set_init (check_set_init_1 hT ?_)) fun r₂ s₂ hr₂=>?_
   ·obtain⟨ol,hol,hcl,nl,hdl⟩:=hl
    obtain⟨ocls,odict,odata,oslots⟩:=ol
    simp only at hcl hdl
    subst hcl;subst hdl
    have hol':(s.heap.push {cls:= .type "set",dict:=none,data:= .set #[] 0 (.fresh 0 0 led)}).get? l=some {cls:= .type "tuple",dict:=odict,data:= .seq items nl,slots:=oslots}:=Heap.get?_push_of_some _ hol
    have hsls:=F.sub_tuple_set
    have hslf:=F.sub_tuple_frozenset
    have hne:(Value.type "tuple"==Value.type "dict")=false:=by decide
    have hl1:(s.heap.push {cls:= .type "set",dict:=none,data:= .set #[] 0 (.fresh 0 0 led)}).IsTuple l items:=⟨_,hol',rfl,nl,rfl⟩
    unfold Builtin.«set.__init__» noKeywords Builtin.Frozenset.updateFrom
    generalize hPI:pyIter=PI
    wp_walk
    subst hPI
    refine wpAny_pyIter_tuple hl1 (wpAny_bind (wpAny_runValue ?_))
    have hlS:l<s.heap.objs.size:=Heap.lt_size hol
    have hh3:A.in1.in1.in1.handled=none:=by simp[hh]
    have hneI:l≠(s.heap.push {cls:= .type "set",dict:=none,data:= .set #[] 0 (.fresh 0 0 led)}).objs.size:=by
     rw[Heap.size_push];exact Nat.ne_of_lt (Nat.lt_succ_of_lt hlS)
    have hSf:s.heap.objs.size ∉ [(s.heap.push {cls:= .type "set",dict:=none,data:= .set #[] 0 (.fresh 0 0 led)}).objs.size,l]:=by
     rw[Heap.size_push];simp only[List.mem_cons,List.mem_singleton,List.not_mem_nil,or_false,not_or]
     exact⟨Nat.ne_of_lt (Nat.lt_succ_self _),Nat.ne_of_gt hlS⟩
    have hval:∀(i:Nat)(v:Value),items[i]?=some v->∃t,v= .int ((fun i=>ns.getD i 0) i) t:=fun i v hv=>
     PyProof.Rows.IntsAre.int_at hi i v (by rw[Array.getElem?_toList];exact hv)
    refine PyProof.Rows.codeAny_set_update_loopS ((Walks.tuple hh3 _ l hneI items).toS) s.heap.objs.size
     hSf (fun i=>ns.getD i 0) hval hb (items.size-0) 0 _ (by omega) (Nat.zero_le _)
     ⟨⟨_,Heap.get?_push_size _ rfl,rfl,rfl⟩,(hl1.at fun o e=>Heap.get?_push_of_some _ e)⟩ ?hS0 ?hR
    case hS0=>
     have hget:((s.heap.push {cls:= .type "set",dict:=none,data:= .set #[] 0 (.fresh 0 0 led)}).push {cls:= .type "tuple_iterator",data:= .fields #[.ref l,.int 0 0]}).get? s.heap.objs.size
       =some {cls:= .type "set",dict:=none,data:= .set #[] 0 (.fresh 0 0 led)}:=Heap.get?_push_of_some _ hS
     exact PyProof.Rows.SetOf_congr ((PyProof.Rows.setObjOf_fresh (knd:=intKind prog w) led).setOf hget (by unfold scanBound;omega)) (fun _=>rfl) rfl
    case hR=>
     intro s' hm hS'
     obtain⟨h',g',d',tk',os'⟩:=s'
     have eg:g'=s.gens:=hm.gens
     have ed:d'=s.drawn:=hm.drawn
     have eo:os'=s.os:=hm.os
     subst eg;subst ed;subst eo
     refine wpAny_pure (wpAny_pure ⟨rfl,h',tk',rfl,hS',fun b o hb e=>?_⟩)
     have hb1:b≠s.heap.objs.size:=Nat.ne_of_lt hb
     have hb2:b≠(s.heap.push {cls:= .type "set",dict:=none,data:= .set #[] 0 (.fresh 0 0 led)}).objs.size:=by
      rw[Heap.size_push];exact Nat.ne_of_lt (Nat.lt_succ_of_lt hb)
     exact hm.heap b o (by simp only[List.mem_cons,List.mem_singleton,List.not_mem_nil,or_false,not_or];exact⟨hb1,hb2⟩) (Heap.get?_push_of_some _ (Heap.get?_push_of_some _ e))
   ·cases r₂ with
    |error e=>exact hr₂
    |ok fl₂=>
     cases fl₂ with
     |ret r=>
      obtain⟨rfl,h',tk,rfl,hS',hk'⟩:=hr₂
      repeat (any_goals (first|assumption|wp_step))
      exact h _ _ hS' hk'
     |_=>exact hr₂.elim
  |_=>exact hr.elim
end
end SetI
namespace L2
open PySem PySem.Spec PyProof.Rows
theorem Zb1:∀(ns:List Int),ns.Nodup->(firstMet (fun i=>ns.getD i 0) ns.length).length=ns.length:=by
 intro ns nd
 have key:∀i,i<=ns.length->firstMet (fun i=>ns.getD i 0) i=ns.take i:=by
  intro i
  induction i with
  |zero=>intro _;rfl
  |succ i ih=>
   intro hi
   rw[firstMet_succ,ih (by omega)]
   unfold step_dedup
   have hg:ns.getD i 0=ns[i]:=by rw[List.getD_eq_getElem?_getD,List.getElem?_eq_getElem (by omega)];rfl
   rw[hg]
   have hno:¬((ns.take i).any (·==ns[i])=true):=by
    intro h
    rw[List.any_eq_true]at h
    obtain⟨x,hx,e⟩:=h
    have e':x=ns[i]:=by simpa using e
    obtain⟨j,hj,ej⟩:=List.getElem_of_mem hx
    rw[List.length_take]at hj
    rw[List.getElem_take]at ej
    have:=(List.getElem_inj (h₀:=by omega) (h₁:=by omega) nd).mp (ej.trans e')
    omega
   rw[if_neg hno,List.take_add_one,List.getElem?_eq_getElem (by omega)]
   rfl
 rw[key _ (Nat.le_refl _),List.take_length]
section
variable{X:Cx}
theorem Zcn{ns:List Int}:∀{us:List Value},Vals (ns.map V.int) us->IntsAre us ns:=by
 induction ns with
 |nil=>intro us r;cases r;exact .nil
 |cons k ks ih=>
  intro us r
  cases r with
  |cons h t=>
   obtain⟨tk,rfl⟩:=h
   exact .cons _ _ (ih t)
inductive ZjE(K:PySem.W.Frag)(xs:List V)(H:Hp)(Q:VK):Prop
 |mk (p:_) (ns:List Int) (_:xs=[.ref p]) (_:SqT K H p (ns.map V.int)) (_:ns.length<=1000) (_:∀q S H',Same H H'->H' q=some (.set S (firstMet (fun i=>ns.getD i 0) ns.length).length)->Q (.ref q) H')
theorem ZeL{k:Nat}(hr:Room k X.A):CallR X (.type "set") (ZjE X.K):=by
 intro pins s σ H xs us Q I r h
 obtain⟨p,ns,rfl,hp,h1000,q⟩:=h
 obtain⟨u,rfl,rx⟩:=vals1 r
 cases(show u=Value.ref p from rx)
 obtain⟨its,rv,pl,hz⟩:=I.tuple hp
 have hvl:=rv.length
 rw[List.length_map]at hvl
 refine SetI.call_set_tupI (ns:=ns) hr.hd pl (by simpa using Zcn rv) (by rw[List.size_toArray,<-hvl];unfold scanBound;omega) fun h' tk hS kp=>?_
 have esz:its.toArray.size=ns.length:=by rw[List.size_toArray];omega
 rw[esz]at hS
 have kp':∀b o,s.heap.get? b=some o->h'.get? b=some o:=fun b o e=>kp b o (Heap.lt_size e) e
 refine⟨.ref s.heap.objs.size,_,I.laid (t':=tk) (o:= .set (fun k'=>(firstMet (fun i=>ns.getD i 0) ns.length).any (·==k')) (firstMet (fun i=>ns.getD i 0) ns.length).length) kp' (Nat.le_refl _) ?_,rfl,q _ (fun k'=>(firstMet (fun i=>ns.getD i 0) ns.length).any (·==k')) _ (Zz (I.hok.fresh (Nat.le_refl _))) Zd⟩
 exact hS
inductive rLenI(xs:List V)(H:Hp)(Q:VK):Prop
 |mk (q S n:_) (_:xs=[.ref q]) (_:H q=some (.set S n)) (_:n<=100000) (_:Q (.int n) H)
theorem ZeP:CallR X (.builtin "len") rLenI:=by
 intro pins s σ H xs us Q I r h
 obtain⟨p,S,n,rfl,hp,hn,q⟩:=h
 obtain⟨u,rfl,rx⟩:=vals1 r
 cases(show u=Value.ref p from rx)
 obtain⟨o,es,ep,t,ho,hex,hd,_,_,_,hf,he⟩:s.heap.SetOf (intKind X.prog X.w) p S n:=(I.hok p _ hp)
 refine call_len_set ho hex hd hf (by omega) ⟨.int n,H,I.tok _,⟨_,by rw[he]⟩,q⟩
end
end L2
namespace L2
open PySem PySem.Spec PyProof.Rows PySem.SeqAt
def Atom:V->Prop
 | .non=>True
 | .bl _=>True
 | .int _=>True
 | .str _=>True
 |_=>False
def Sam(K:PySem.W.Frag)(H:Hp):Nat->V->V->Prop
 |0,x,y=>x=y/\Atom x
 |d+1,x,y=>(x=y/\Atom x)\/∃a b xs ys,x= .ref a/\y= .ref b/\((SqT K H a xs/\SqT K H b ys)\/(SqL K H a xs/\SqL K H b ys))/\xs.length=ys.length/\∀(i:Nat) u v,xs[i]?=some u->ys[i]?=some v->Sam K H d u v
section
variable{X:Cx}
theorem Zek{A}{s}{x}{u v:Value}(h:Atom x)(ru:RelV x u)(rv:RelV x v):EqAt A s u v true:=by
 cases x with
 |non=>cases ru;cases rv;exact EqAt.same _
 |bl b=>cases ru;cases rv;exact EqAt.same _
 |int i=>
  obtain⟨t,rfl⟩:=ru
  obtain⟨a,rfl⟩:=rv
  have e:=EqAt.int_int (A:=A) (s:=s) i t i a
  grind
 |str i=>
  obtain⟨t,rfl⟩:=ru
  obtain⟨a,rfl⟩:=rv
  have e:=(eqGives_str i i t a).at A s
  grind
 |_=>exact h.elim
theorem all_true(n):(List.range n).all (fun _=>true)=true:=by simp
theorem Zdp{pins}{σ:St}{H}{s}(I:Inv X pins σ H s):∀(d)(A)(x y)(u v),A.units+d<cLine->Sam X.K H d x y->RelV x u->RelV y v->EqAt A s u v true
 |0,A,x,y,u,v,J,h,m,n=>by
  obtain⟨rfl,h⟩:=h
  exact Zek h m n
 |d+1,A,x,y,u,v,J,h,m,n=>by
  rcases h with⟨rfl,h⟩|⟨a,b,_,_,rfl,rfl,h,_,E⟩
  ·exact Zek h m n
  cases m
  cases n
  by_cases g:a=b
  ·subst g
   exact EqAt.same _
  refine EqAt.of_refs g ?_
  rcases h with⟨C,z⟩|⟨C,z⟩
  ·obtain⟨w,f,r,_⟩:=I.tuple C
   obtain⟨p,c,B,_⟩:=I.tuple z
   have M:=f.length
   have F:=c.length
   have e:=RcAt.tuples (A:=A) (e:=fun _=>true) r B (by omega) (fun j t D=>?_)
   ·grind
   ·simp[List.size_toArray]at t D
    obtain⟨l,L,q⟩:=f.get (List.getElem?_eq_getElem (i:=j) (by omega))
    obtain⟨k,G,o⟩:=c.get (List.getElem?_eq_getElem (i:=j) (by omega))
    simp[List.getElem_toArray,(show w[j]=l by simp_all),(show p[j]=k by grind)]
    exact(Zdp I d _ _ _ l k (by show A.units+1+d<cLine;omega) (E j _ _ (List.getElem?_eq_getElem (by omega)) (List.getElem?_eq_getElem (by omega))) q o)
  ·obtain⟨w,f,r,_⟩:=I.list C
   obtain⟨p,c,B,_⟩:=I.list z
   have M:=f.length
   have F:=c.length
   have e:=RcAt.lists (A:=A) (e:=fun _=>true) r.isList B.isList (by simp;omega) (by omega) (fun j t D=>?_)
   ·rw[all_true]at e
    exact e
   ·simp[List.size_toArray]at t D
    obtain⟨l,L,q⟩:=f.get (List.getElem?_eq_getElem (i:=j) (by omega))
    obtain⟨k,G,o⟩:=c.get (List.getElem?_eq_getElem (i:=j) (by omega))
    simp[List.getElem_toArray,(show w[j]=l by simp_all),(show p[j]=k by grind)]
    exact(Zdp I d A.in1 _ _ l k (by show A.units+1+d<cLine;omega) (E j _ _ (List.getElem?_eq_getElem (by omega)) (List.getElem?_eq_getElem (by omega))) q o)
end
end L2
namespace L2
open PySem PySem.Spec PyProof.Rows
section
variable{κ:Type}[DecidableEq κ]
def ZP(kvs:List (κ×V))(k:κ):Option V:=(kvs.find? fun kv=>decide (kv.1=k)).map (·.2)
def putK(kvs:List (κ×V))(k:κ)(v:V):List (κ×V):=
 if(kvs.any fun kv=>decide (kv.1=k))=true then kvs.map (fun kv=>if kv.1=k then(kv.1,v)else kv)else kvs++[(k,v)]
theorem Yf{p}{r}{k:κ}(e:p.1=k):ZP (p::r) k=some p.2:=by simp[ZP,List.find?_cons,e]
theorem Yg{p}{r}{k:κ}(e:¬p.1=k):ZP (p::r) k=ZP r k:=by simp[ZP,List.find?_cons,e]
theorem YR(k):∀kvs:List (κ×V),(kvs.any fun kv=>decide (kv.1=k))=(ZP kvs k).isSome
 |[]=>rfl
 |p::r=>by
  rw[List.any_cons]
  by_cases e:p.1=k
  ·simp[Yf e,decide_eq_true e,Bool.true_or,Option.isSome_some]
  ·rw[Yg e,decide_eq_false e,Bool.false_or];exact YR k r
theorem Zcy(k j)(y):∀kvs:List (κ×V),ZP (kvs.map fun kv=>if kv.1=k then(kv.1,y)else kv) j=(ZP kvs j).map fun x=>if j=k then y else x
 |[]=>rfl
 |p::r=>by
  have a:=Zcy k j y r
  rw[List.map_cons]
  by_cases h:p.1=k
  ·rw[if_pos h]
   by_cases e:p.1=j
   ·rw[Yf (p:=(p.1,y)) e,Yf e,Option.map_some,if_pos (e.symm.trans h)]
   ·rw[Yg (p:=(p.1,y)) e,Yg e,a]
  ·rw[if_neg h]
   by_cases e:p.1=j
   ·rw[Yf e,Yf e,Option.map_some,if_neg (fun z=>h (e.trans z))]
   ·rw[Yg e,Yg e,a]
theorem Zb7(k j)(y):∀kvs:List (κ×V),ZP kvs k=none->ZP (kvs++[(k,y)]) j=if j=k then some y else ZP kvs j
 |[],_=>by
  by_cases e:k=j
  ·rw[if_pos e.symm];exact Yf e
  ·rw[if_neg (fun z=>e z.symm)];exact Yg e
 |p::r,a=>by
  rw[List.cons_append]
  have b:¬p.1=k:=fun z=>by rw[Yf z]at a;cases a
  rw[Yg b]at a
  by_cases e:p.1=j
  ·rw[Yf e,Yf e,if_neg (fun z=>b (e.trans z))]
  ·rw[Yg e,Yg e,(Zb7 k j y r a)]
theorem YQ(kvs)(k j:κ)(y):ZP (putK kvs k y) j=if j=k then some y else ZP kvs j:=by
 unfold putK
 by_cases a:(kvs.any fun b=>decide (b.1=k))=true
 ·rw[if_pos a,Zcy]
  rw[YR]at a
  by_cases e:j=k
  ·obtain⟨x,_⟩:=Option.isSome_iff_exists.mp a
   grind
  ·simp_all
 ·rw[if_neg a]
  refine Zb7 k j y _ ?_
  rw[YR]at a
  simp_all
theorem ZN(kvs)(k:κ)(v):(putK kvs k v).length<=kvs.length+1:=by
 unfold putK
 grind
theorem Zfs{kvs}{k:κ}(v)(h:ZP kvs k=none):putK kvs k v=kvs++[(k,v)]:=by
 unfold putK
 rw[YR,h]
 grind
theorem RelO.isSome_eq{o}{u}(r:RelO o u):o.isSome=u.isSome:=by
 cases o with
 |none=>cases u with
  |none=>rfl
  |some _=>exact r.elim
 |some _=>cases u with
  |none=>exact r.elim
  |some _=>rfl
theorem RelO.getD{o}{u}{d}{d'}(r:RelO o u)(rd:RelV d d'):RelV (o.getD d) (u.getD d'):=by
 cases o with
 |none=>cases u with
  |none=>exact rd
  |some _=>exact r.elim
 |some _=>cases u with
  |none=>exact r.elim
  |some _=>exact r
theorem KV.val{kvs}{vs}(r:KV kvs vs)(k:κ):RelO (ZP kvs k) (valueAt vs k):=by
 induction r with
 |nil=>exact True.intro
 |@cons p q _ a h t d=>
  obtain⟨c,f⟩:=h
  by_cases e:p.1=k
  ·have b:valueAt (q::a) k=some q.2:=by simp[valueAt,List.find?_cons,(c.symm.trans e)]
   rw[Yf e,b];exact f
  ·rw[Yg e,(show valueAt _ k=valueAt a k by simp[valueAt,List.find?_cons,(show¬q.1=k from fun z=>e (c.trans z))])];exact d
theorem KV.any{kvs}{vs}(r:KV kvs vs)(k:κ):(kvs.any fun kv=>decide (kv.1=k))=vs.any fun kv=>decide (kv.1=k):=by
 induction r with
 |nil=>rfl
 |_ h t _=>simp_all
theorem KV.repl{kvs}{vs}(r:KV kvs vs)(k:κ){y:V}{u:Value}(ry:RelV y u):
  KV (kvs.map fun kv=>if kv.1=k then(kv.1,y)else kv) (vs.map fun kv=>if kv.1=k then(kv.1,u)else kv):=by
 induction r with
 |nil=>exact .nil
 |@cons p q _ _ h t c=>
  refine .cons ?_ c
  grind
theorem KV.put{kvs}{vs}(r:KV kvs vs)(k:κ){y}{u}(ry:RelV y u):KV (putK kvs k y) (stored vs k u):=by
 unfold putK stored
 rw[r.any k]
 by_cases e:(vs.any fun a=>decide (a.1=k))=true
 ·rw[if_pos e,if_pos e];exact r.repl k ry
 ·rw[if_neg e,if_neg e];exact Paired.snoc r ⟨rfl,ry⟩
theorem KV.keys{kvs:List (κ×V)}{vs:List (κ×Value)}(r:KV kvs vs):kvs.map (·.1)=vs.map (·.1):=by
 unfold KV at r
 induction r with
 |nil=>rfl
 |cons h t ih=>rw[List.map_cons,List.map_cons,ih,h.1]
theorem KV.length{kvs}{vs:List (κ×Value)}(r:KV kvs vs):kvs.length=vs.length:=Paired.length r
end
theorem ZbL{P}{w}{k}{u}(r:RelV (kV k) u):(ZQ P w).is k u=true:=by
 cases k with
 |inl i=>obtain⟨t,e⟩:=r;subst e;exact ZcI P w i t
 |_ x=>obtain⟨t,e⟩:=r;subst e;exact ZcH P w x t
theorem ZbM{P}{w}:∀{ks}{us},Vals (ks.map kV) us->ItemsAre (ZQ P w) ks us
 |[],_,r=>by cases r;exact .nil
 |k::ks,_,r=>by
  cases r with
  |cons h t=>exact .cons (ZbL h) (ZbM t)
abbrev KT(H:Hp):List (List Key×V)->List (List Key×Addr×Value)->Prop:=Paired fun p q=>p.1=q.1/\H q.2.1=some (.tup (p.1.map kV))/\RelV p.2 q.2.2
theorem KT.val{H}{kvs:List (List Key×V)}{xs:List (List Key×Addr×Value)}(r:KT H kvs xs)(k:List _):RelO (ZP kvs k) ((atKey xs k).map (·.2)):=by
 induction r with
 |nil=>exact True.intro
 |@cons p q _ a h t d=>
  obtain⟨c,_,f⟩:=h
  by_cases e:p.1=k
  ·have b:atKey (q::a) k=some q.2:=by simp[atKey,List.find?_cons,(c.symm.trans e)]
   rw[Yf e,b];exact f
  ·rw[Yg e,(show atKey _ k=atKey a k by simp[atKey,List.find?_cons,(show¬q.1=k from fun z=>e (c.trans z))])];exact d
theorem KT.repl{H}{kvs}{xs:List _}(r:KT H kvs xs)(k:List _){y:V}{u:Value}(ry:RelV y u):
  KT H (kvs.map fun kv=>if kv.1=k then(kv.1,y)else kv) (xs.map (putAt k u)):=by
 induction r with
 |nil=>exact .nil
 |@cons p q _ _ h t c=>
  refine .cons ?_ c
  obtain⟨_,_,_⟩:=h
  unfold putAt
  by_cases e:p.1=k
  ·simp_all
  ·simp_all
theorem KT.put{H:Hp}{kvs:List _}{xs:List _}(r:KT H kvs xs)(k:List _){b:Addr}{y:V}{u:Value}(hb:H b=some (.tup (k.map kV)))(ry:RelV y u):
  KT H (putK kvs k y) (storedH xs k b u):=by
 have e:(kvs.any fun c=>decide (c.1=k))=(atKey xs k).isSome:=by
  rw[YR,(r.val k).isSome_eq,Option.isSome_map]
 unfold putK storedH
 rw[e]
 by_cases q:(atKey xs k).isSome=true
 ·rw[if_pos q,if_pos q];exact r.repl k ry
 ·rw[if_neg q,if_neg q];exact Paired.snoc r ⟨rfl,hb,ry⟩
theorem KT.keeps{H H'}{kvs}{xs}(r:KT H kvs xs)(ht:∀b ys,H b=some (.tup ys)->H' b=some (.tup ys)):KT H' kvs xs:=
 Paired.mapP r fun _ _ z=>⟨z.1,ht _ _ z.2.1,z.2.2⟩
section
variable{P:Program}{w:World}{H:Hp}{h:Heap}{a:Addr}
theorem ZhM{u}(ok:HOk P w H h)(e:Rd H a u):ObjOk P w H h a u:=e.ok ok
theorem ZcV{kvs}(ok:HOk P w H h)(e:Rd H a (.dK kvs)):kvs.length<=sizeLine/\(a==sysModules)=false/\∃vs,KV kvs vs/\h.DictOf (ZQ P w) a vs:=
 ZhM ok e
theorem Zgd{kvs}(ok:HOk P w H h)(e:H a=some (.dK kvs)):kvs.length<=sizeLine/\(a==sysModules)=false/\∃vs,KV kvs vs/\h.DictOf (ZQ P w) a vs:=ZcV ok (.inl e)
theorem Zbf{ks}(ok:HOk P w H h)(e:H a=some (.tup (ks.map kV))):(tupleKind (ZQ P w)).is h ks a:=by
 obtain⟨_,_,r,o,d,c,n,b⟩:=(ok a _ e)
 exact⟨o,_,n,d,c,b,by simpa using ZbM r⟩
theorem ZcU{kvs}(ok:HOk P w H h)(e:Rd H a (.dT kvs)):kvs.length<=sizeLine/\(a==sysModules)=false/\
  ∃xs,KT H kvs xs/\h.DictOfH (tupleKind (ZQ P w)) a xs:=by
 obtain⟨z,y,xs,r,o,s,i,k,n,j,f,d⟩:=(ZhM ok e)
 refine⟨z,y,xs,r,o,s,i,k,n,j,f,fun x b=>?_,d⟩
 have c:∀{l}{m},KT H l m->∀x∈m,(tupleKind (ZQ P w)).is h x.1 x.2.1:=by
  intro l m q
  induction q with
  |nil=>grind
  |@cons p q _ _ _ t g=>
   intro x b
   rcases List.mem_cons.mp b with e|b
   ·subst e
    exact Zbf ok (by grind)
   ·exact g x b
 exact c r x b
theorem ZkN{kvs}(ok:HOk P w H h)(e:H a=some (.dT kvs)):kvs.length<=sizeLine/\(a==sysModules)=false/\
  ∃xs,KT H kvs xs/\h.DictOfH (tupleKind (ZQ P w)) a xs:=ZcU ok (.inl e)
end
def DGet(H:Hp)(a:Addr)(y:V)(r:Option V):Prop:=
 (∃kvs k,Rd H a (.dK kvs)/\y=kV k/\r=ZP kvs k)\/∃kvs k b,Rd H a (.dT kvs)/\y= .ref b/\H b=some (.tup (k.map kV))/\r=ZP kvs k
def DPut(H:Hp)(a:Addr)(y v:V)(H':Hp):Prop:=
 (∃kvs k,H a=some (.dK kvs)/\y=kV k/\kvs.length<sizeLine/\H'=upd H a (.dK (putK kvs k v)))\/
 ∃kvs k b,H a=some (.dT kvs)/\y= .ref b/\H b=some (.tup (k.map kV))/\kvs.length<sizeLine/\H'=upd H a (.dT (putK kvs k v))
theorem DGet.k{H}{a}{kvs}{k}(e:H a=some (.dK kvs)):DGet H a (kV k) (ZP kvs k):= .inl ⟨kvs,k,.inl e,rfl,rfl⟩
theorem DGet.t{H}{a b}{kvs}{k}(e:H a=some (.dT kvs))(eb:H b=some (.tup (k.map kV))):DGet H a (.ref b) (ZP kvs k):= .inr ⟨kvs,k,b,.inl e,rfl,eb,rfl⟩
theorem DPut.k{H}{a}{kvs}{k}{v}(e:H a=some (.dK kvs))(hl:kvs.length<sizeLine):DPut H a (kV k) v (upd H a (.dK (putK kvs k v))):= .inl ⟨kvs,k,e,rfl,hl,rfl⟩
theorem DPut.t{H}{a b}{kvs}{k}{v}(e:H a=some (.dT kvs))(eb:H b=some (.tup (k.map kV)))(hl:kvs.length<sizeLine):
  DPut H a (.ref b) v (upd H a (.dT (putK kvs k v))):= .inr ⟨kvs,k,b,e,rfl,eb,hl,rfl⟩
section
variable{X:Cx}{pins:List (Addr×Obj)}{σ:St}{H:Hp}{s:Shared}{a:Addr}{y v:V}{u r:Value}{o:Option V}{A:Around}{E:Value->Shared->Prop}
theorem ZlZ{Q}(hu:A.units+1<cLine)(I:Inv X pins σ H s)(g:DGet H a y o)(ry:RelV y u)(h:∀s',Inv X pins σ H s'->Q (.bool o.isSome) s'):
  wpAny (model X.prog X.w) A (compareOp .In u (.ref a)) Q E s:=by
 rcases g with⟨f,k,e,i,l⟩|⟨f,k,b,e,i,n,l⟩
 ·subst i
  obtain⟨z,m,_,d,j⟩:=ZcV I.hok e
  refine wpAny_in_of (ZbL ry) m j.mapOf ?_
  rw[<-(d.val k).isSome_eq,<-l]
  exact h _ (I.tok _)
 ·subst i
  cases ry
  obtain⟨z,m,_,d,j⟩:=ZcU I.hok e
  refine wpAny_in_heap (tupleKind_room_in1 hu) (Zbf I.hok n) m j ?_
  have q:=(d.val k).isSome_eq
  rw[Option.isSome_map]at q
  rw[<-q,<-l]
  exact h _ (I.tok _)
theorem Zhu{Q}(hu:A.units+1<cLine)(I:Inv X pins σ H s)(g:DGet H a y o)(ry:RelV y u)(h:∀s',Inv X pins σ H s'->Q (.bool (!o.isSome)) s'):
  wpAny (model X.prog X.w) A (compareOp .NotIn u (.ref a)) Q E s:=by
 rcases g with⟨f,k,e,i,l⟩|⟨f,k,b,e,i,n,l⟩
 ·subst i
  obtain⟨z,m,_,d,j⟩:=ZcV I.hok e
  refine wpAny_notIn_of (ZbL ry) m j.mapOf ?_
  rw[<-(d.val k).isSome_eq,<-l]
  exact h _ (I.tok _)
 ·subst i
  cases ry
  obtain⟨z,m,_,d,j⟩:=ZcU I.hok e
  refine wpAny_notIn_heap (tupleKind_room_in1 hu) (Zbf I.hok n) m j ?_
  have q:=(d.val k).isSome_eq
  rw[Option.isSome_map]at q
  rw[<-q,<-l]
  exact h _ (I.tok _)
theorem Zcr{h'}{t'}{ob}(I:Inv X pins σ H s)(mu:Mut (H a))(hs:Heap.SameBut a s.heap h')(he:∃q,h'.get? a=some q) (new:ObjOk X.prog X.w (upd H a ob) h' a ob):
  Inv X pins σ (upd H a ob) {s with heap:=h',toks:=t'}:=
 I.write mu (.inl rfl) (fun b q c z=>(hs.2 b c).trans z) he new
theorem Zge{P}{w}{H'}{h'}{kvs}{vs}(z:kvs.length<=sizeLine)(hd:(a==sysModules)=false)(rel:KV kvs vs)(dd:h'.DictOf (ZQ P w) a vs):
  ObjOk P w H' h' a (.dK kvs):=⟨z,hd,vs,rel,dd⟩
theorem ZeH{H'}{Q}(hu:A.units+1<cLine)(I:Inv X pins σ H s)(g:DPut H a y v H')(ry:RelV y u)(rv:RelV v r)(h:∀s',Inv X pins σ H' s'->Q () s'):
  wpAny (model X.prog X.w) A (setItem (.ref a) u r) Q E s:=by
 rcases g with⟨j,k,e,n,l,o⟩|⟨j,k,b,e,n,eb,l,o⟩
 ·subst n o
  obtain⟨z,B,vs,d,p⟩:=Zgd I.hok e
  exact wpAny_setItem_pairs (hsz:=(show vs.length<=sizeLine by rw[<-d.length];exact z)) (ZbL ry) p fun h' f x=>h _ (Zcr I (by rw[e];exact True.intro) x (show∃q,h'.get? a=some q from let⟨q,_,_,m,_⟩:=f;⟨q,m⟩) (Zge (show(putK _ k v).length<=sizeLine by have:=ZN j k v;omega) B (d.put k rv) f))
 ·subst n o
  cases ry
  obtain⟨z,B,xs,d,p⟩:=ZkN I.hok e
  refine wpAny_setItem_heap (hsz:=(show xs.length<=sizeLine by rw[<-Paired.length d];exact z)) (tupleKind_room_in1 hu) (Zbf I.hok eb) p fun h' f x=>h _ ?_
  obtain⟨q,es,ep,m,h2,h3,h4,_,h5⟩:=f
  refine Zcr I (by rw[e];exact True.intro) x ⟨q,m⟩ ⟨(show(putK _ k v).length<=sizeLine by have:=ZN j k v;omega),B,_,(d.put k eb rv).keeps fun c ys ec=>?_,q,es,ep,m,h2,h3,h4,h5⟩
  rw[Zf (ZcF ec e (fun z=>nomatch z))]
  exact ec
end
def Zlu(ty td:TE):TE:=fun σ H Q=>ty σ H fun y H1=>td σ H1 fun x H2=>∃a o,x= .ref a/\DGet H2 a y o/\Q (.bl o.isSome) H2
def ZgF(ty td:TE):TE:=fun σ H Q=>ty σ H fun y H1=>td σ H1 fun x H2=>∃a o,x= .ref a/\DGet H2 a y o/\Q (.bl (!o.isSome)) H2
def ZjD(td ty tv:TE):TS:=fun D σ H=>tv σ H fun v H1=>td σ H1 fun x H2=>ty σ H2 fun y H3=>∃a H4,x= .ref a/\DPut H3 a y v H4/\D.nx σ H4
section
variable{X:Cx}{o i e value:Expr}{pos pos' tpos:Pos}{td ty tv:TE}
theorem ZiA(hu:X.A.units+1<cLine)(hi:PE X i ty)(ho:PE X o td):PC X .In i o (Zlu ty td):=by
 refine fun b s σ H Q I h=>thn (hi b s σ H _ I h) fun _ p⟨y,n,k,c,e⟩=>thn (ho b p σ n _ k e) fun u _ xq1=>?_
 obtain⟨x,l,f,m,a,r,d,g,q⟩:=xq1
 subst d
 obtain rfl:u=Value.ref a:=m
 exact ZlZ hu f g c fun _ j=>⟨.bl r.isSome,l,j,rfl,q⟩
theorem J0(hu:X.A.units+1<cLine)(hi:PE X i ty)(ho:PE X o td):PC X .NotIn i o (ZgF ty td):=by
 refine fun b s σ H Q I h=>thn (hi b s σ H _ I h) fun _ p⟨y,n,k,c,e⟩=>thn (ho b p σ n _ k e) fun u _ xq1=>?_
 obtain⟨x,l,f,m,a,r,d,g,q⟩:=xq1
 subst d
 obtain rfl:u=Value.ref a:=m
 exact Zhu hu f g c fun _ j=>⟨.bl (!r.isSome),l,j,rfl,q⟩
theorem Jz(hu:X.A.units+1<cLine)(ho:PE X o td)(hi:PE X i ty)(hv:PE X value tv)(hs:swapsWith value (some (.Subscript o i pos')) pos.line X.env=pure false):
  PS X (.Assign [.Subscript o i pos'] value pos) (ZjD td ty tv):=by
 refine fun b s σ H D I h=>wpAny_Assign_Subscript (thn (hv b s σ H _ I h) fun r t⟨v,q,n,e,f⟩=>thn (ho b t σ q _ n f) fun u p⟨x,C,k,w,B⟩=>thn (hi b p σ C _ k B) fun _ _ xq1=>?_) hs
 obtain⟨y,_,m,c,a,l,d,g,z⟩:=xq1
 subst d
 obtain rfl:u=Value.ref a:=w
 exact ZeH hu m g c e fun _ j=>⟨σ,l,j,z⟩
end
theorem Zgc{P}{w}{H:Hp}(h:Heap)(hb:sysModules<h.objs.size):ObjOk P w H (h.push {cls:= .type "dict",data:= .dict #[]}) h.objs.size (.dT []):=
 ⟨Nat.zero_le _,beq_eq_false_iff_ne.mpr (Ne.symm (Nat.ne_of_lt hb)),[],.nil,_,_,0,Heap.get?_push_size _ rfl,⟨rfl,rfl,rfl⟩,rfl,rfl,List.nodup_nil⟩
def tDNewT:TE:=fun _ H Q=>∀p,H p=none->Q (.ref p) (upd H p (.dT []))
section
variable{X:Cx}{pos:Pos}
theorem ZaV:PE X (.Dict [] [] pos) tDNewT:=fun _ s σ H Q I h=>
 wpAny_Dict_empty ⟨.ref s.heap.objs.size,_,I.laid (fun _ _ q=>Heap.get?_push_of_some _ q) (Nat.le_refl _) (Zgc s.heap I.big),rfl,h _ (I.hok.fresh (Nat.le_refl _))⟩
end
structure M2(X:Cx)(o:Expr)(m:Str)(apos:Pos)(e f:Expr)(cpos:Pos):Prop where
 base:attributeBase o m X.env (eval o X.env)=eval o X.env
 few:((backTo cpos (starEach [e,f] X.env)).all (fun x=> !x.1)&&(backToKw cpos (keywordEach [] X.env)).all (fun x=>x.1.isSome)
  &&decide (([e,f]:List Expr).length+([]:List Keyword).length+(if([]:List Keyword).isEmpty then 0 else 1)<30))=true
 line:(apos.endLine==cpos.line)=true
 trees:backTo cpos (starEach [e,f] X.env)=[(false,eval e X.env),(false,eval f X.env)]
def IsD(H:Hp)(a:Addr):Prop:=(∃kvs,Rd H a (.dK kvs))\/∃kvs,Rd H a (.dT kvs)
theorem ZfP{X}{pins}{σ:St}{H}{s:Shared}{a:Addr}(I:Inv X pins σ H s)(d:IsD H a):
  s.TypeIs (.ref a) "dict"/\(∀b,Value.ref a= .ref b->∃ob,s.heap.get? b=some ob/\ob.dict=none)/\(a==sysModules)=false:=by
 rcases d with⟨h,e⟩|⟨h,e⟩
 ·obtain⟨_,g,_,_,c⟩:=ZcV I.hok e
  refine⟨c.typeIs,fun b q=>?_,g⟩
  cases q
  obtain⟨ob,_,_,i,f,_⟩:=c
  exact⟨ob,i,f.2.1⟩
 ·obtain⟨_,g,_,_,c⟩:=ZcU I.hok e
  refine⟨c.typeIs,fun b q=>?_,g⟩
  cases q
  obtain⟨ob,_,_,i,f,_⟩:=c
  exact⟨ob,i,f.2.1⟩
section
variable{X:Cx}{pins:List (Addr×Obj)}{σ:St}{H:Hp}{s:Shared}{a:Addr}{y d:V}{u r:Value}{o:Option V}{A:Around}{E:Value->Shared->Prop}
theorem Zjg{Q}(hu:A.units+1<cLine)(I:Inv X pins σ H s)(g:DGet H a y o)(ry:RelV y u)(rd:RelV d r)(h:∀w' s',Inv X pins σ H s'->RelV (o.getD d) w'->Q w' s'):
  wpAny (model X.prog X.w) A (call (.builtin "dict.get") [.ref a,u,r]) Q E s:=by
 rcases g with⟨n,k,e,m,l⟩|⟨n,k,b,e,m,t,l⟩
 ·subst m
  obtain⟨z,p,_,f,i⟩:=ZcV I.hok e
  refine call_meetsIn PySem.F.slot_dict_get i.typeIs PySem.F.entry_dict_get (PySem.F.args_dict_get_3 _ _ _) (meets_dict_get_default (ZQ X.prog X.w) a (ZbL ry) p r) ⟨_,i.mapOf,h _ _ (I.tok _) ?_⟩
  rw[l]
  exact(f.val k).getD rd
 ·subst m
  cases ry
  obtain⟨z,p,q,f,i⟩:=ZcU I.hok e
  refine call_meetsIn PySem.F.slot_dict_get i.typeIs PySem.F.entry_dict_get (PySem.F.args_dict_get_3 _ _ _) (meetsH_dict_get_default (tupleKind (ZQ X.prog X.w)) a b p r) ⟨tupleKind_room_in1 hu,k,q,Zbf I.hok t,i,h _ _ (I.tok _) ?_⟩
  rw[l]
  exact(f.val k).getD rd
end
def Zif(td ty tx:TE):TE:=fun σ H Q=>td σ H fun x H1=>∃a,x= .ref a/\IsD H1 a/\ty σ H1 fun y H2=>tx σ H2 fun z H3=>∃o,DGet H3 a y o/\Q (o.getD z) H3
section
variable{X:Cx}{o e f:Expr}{apos cpos:Pos}{td ty tx:TE}
theorem Zf2(hu:X.A.units+1<cLine)(ho:PE X o td)(he:PE X e ty)(hf:PE X f tx)(m:M2 X o "get" apos e f cpos):PE X (.Call (.Attribute o "get" apos) [e,f] [] cpos) (Zif td ty tx):=by
 refine fun i s σ H Q I h=>wpAny_Call_method m.base m.few m.line PySem.F.plainAttrs_dict PySem.F.slot_dict_get PySem.F.type_dict_get (thn (ho i s σ H _ I h) fun u l xq1=>?_)
 obtain⟨x,n,k,B,a,v,d,p⟩:=xq1
 subst v
 obtain rfl:u=Value.ref a:=B
 obtain⟨w,q,_⟩:=ZfP k d
 refine⟨w,q,?_⟩
 rw[m.trees]
 exact Calls.callWith_builtin rfl (Calls.evalArgs_plain (Calls.spliced_cons (thn (he i l σ n _ k p) fun _ G⟨y,M,K,D,C⟩=>
  Calls.spliced_cons (thn (hf i G σ M _ K C) fun _ _⟨z,r,J,E,_,g,L⟩=>Calls.spliced_nil (Zjg hu J g D E fun _ _ t j=>⟨_,r,t,j,L⟩)))))
end
end L2
namespace PySem
open Sem (wp)
section
variable{prog:Program}{w:World}{A:Around}{E:Value->Shared->Prop}{s:Shared}
theorem Za0{z TI TO i1 i2 l1 l2}{k1 k2}{xs ys}{x y a b}{Q:Value->Shared->Prop}(D:ZipApart z TI TO i1 i2 l1 l2)
  (hz:IsZip s.heap z TI TO .none)(hTI:IsPair s.heap TI (.ref i1) (.ref i2))(hTO:IsPair s.heap TO a b)
  (h1:s.heap.IsTupleIter i1 l1 k1)(h2:s.heap.IsTupleIter i2 l2 k2)(hl1:s.heap.IsTuple l1 xs)(hl2:s.heap.IsTuple l2 ys)(hx:xs[k1]?=some x)(hy:ys[k2]?=some y)
  (hQ:∀h',IsZip h' z TI TO (rawInt s.heap.objs.size)->IsPair h' TO x y->h'.IsTupleIter i1 l1 (k1+1)->h'.IsTupleIter i2 l2 (k2+1)->IsPair h' s.heap.objs.size x y->h'.objs.size=s.heap.objs.size+1->
   (∀c o,c≠z->c≠TO->c≠i1->c≠i2->s.heap.get? c=some o->h'.get? c=some o)->Q (.ref s.heap.objs.size) {s with heap:=h'}):
  wpAny (model prog w) A (Builtin.«zip.__next__» ⟨[.ref z],[]⟩) (fun fin s'=>∃v,fin= .done (.ret v)/\Q v s') E s:=by
 show wpAny _ _ (field (.ref z) 2>>=_) _ _ _
 refine wpAny_bind (wpAny_field hz rfl (x:= .bool false) rfl (wpAny_bind (wpAny_field hz rfl (x:= .ref TI) rfl (wpAny_bind (wpAny_seqItems hTI rfl (wpAny_bind (wpAny_bind (wpAny_field hz rfl (x:= .none) rfl (wpAny_pure ?_)))))))))
 refine wpAny_bind (wpAny_rule (wpAny_bind (wpAny_field hz rfl (x:= .ref TO) rfl (wpAny_bind (wpAny_setField_rec hz (by simp) fun h₁ B f=>?_)))))
 replace B:=B
 refine wpAny_bind (wpAny_bind (wpAny_bind (wpAny_onRaise (wpAny_bind (ZJ (h1.extBut f.extBut D.i1z) (hl1.extBut f.extBut D.l1z) hx fun h₂ h1₂ i=>wpAny_pure ?_)))))
 have t:=i.extBut _ _ D.TOi1 (f.extBut _ _ D.TOz hTO)
 refine wpAny_bind (wpAny_seqItems t rfl (wpAny_bind (wpAny_updateSeq_pair t fun h₃ l h=>?_)))
 replace l:=l
 refine wpAny_bind (wpAny_letGo (wpAny_pure (wpAny_bind (wpAny_bind (wpAny_onRaise (wpAny_bind (ZJ (((h2.extBut f.extBut D.i2z).extBut i.extBut D.i12.symm).extBut h.extBut D.TOi2.symm)
  (((hl2.extBut f.extBut D.l2z).extBut i.extBut D.l2i1).extBut h.extBut D.l2TO) hy fun h₄ h2₄ k=>wpAny_pure ?_)))))))
 have p:=k.extBut _ _ D.TOi2 l
 refine wpAny_bind (wpAny_seqItems p rfl (wpAny_bind (wpAny_updateSeq_pair p fun m g j=>?_)))
 replace g:IsPair m TO x y:=g
 refine wpAny_bind (wpAny_letGo (wpAny_pure (wpAny_pure (wpAny_bind (wpAny_seqItems g rfl (wpAny_bind (wpAny_newTuple ?_)))))))
 have hsz:m.objs.size=s.heap.objs.size:=by rw[j.1,k.1,h.1,i.1,f.1]
 have hz₅:=j.extBut _ _ D.TOz.symm (k.extBut _ _ D.i2z.symm (h.extBut _ _ D.TOz.symm (i.extBut _ _ D.i1z.symm B)))
 have hk₅:∀c o,c≠z->c≠TO->c≠i1->c≠i2->s.heap.get? c=some o->m.get? c=some o:=fun c o G c2 c3 c4 e=>
  j.extBut _ _ c2 (k.extBut _ _ c4 (h.extBut _ _ c2 (i.extBut _ _ c3 (f.extBut _ _ G e))))
 have q:=Heap.lt_size hz₅
 refine wpAny_bind (wpAny_bind (wpAny_setField_rec (show IsZip (m.push {cls:= .type "tuple",data:= .seq #[x,y]}) z TI TO .ellipsis from Heap.get?_push_of_some _ hz₅) (by simp) fun h₇ F u=>?_))
 replace F:IsZip h₇ z TI TO (rawInt m.objs.size):=F
 refine wpAny_setField_rec F (by simp) fun h₈ n C=>?_
 replace n:IsZip h₈ z TI TO (rawInt m.objs.size):=n
 have up:∀c o,c≠z->m.get? c=some o->h₈.get? c=some o:=fun c o G e=>C.extBut _ _ G (u.extBut _ _ G (Heap.get?_push_of_some _ e))
 have hT₈:IsPair h₈ m.objs.size x y:=C.extBut _ _ (Nat.ne_of_gt q) (u.extBut _ _ (Nat.ne_of_gt q) (Heap.get?_push_size _ rfl))
 have hz8:h₈.objs.size=m.objs.size+1:=by rw[C.1,u.1,Heap.size_push]
 rw[hsz]at n hT₈ hz8
 refine wpAny_pure ⟨_,rfl,?_⟩
 rw[hsz]
 exact hQ h₈ n (up _ _ D.TOz g) (let⟨o,ho,r⟩:=(((h1₂.extBut h.extBut D.TOi1.symm).extBut k.extBut D.i12).extBut j.extBut D.TOi1.symm);⟨o,up _ o D.i1z ho,r⟩) (let⟨o,ho,r⟩:=(h2₄.extBut j.extBut D.TOi2.symm);⟨o,up _ o D.i2z ho,r⟩) hT₈ hz8 fun c o G c2 c3 c4 e=>up c o G (hk₅ c o G c2 c3 c4 e)
theorem ZaD{z TI TO i1 i2 l1 l2}{k1 k2}{xs ys}{a b}{Q}(hh:A.handled=none)(D:ZipApart z TI TO i1 i2 l1 l2)
  (hz:IsZip s.heap z TI TO .none)(hTI:IsPair s.heap TI (.ref i1) (.ref i2))(hTO:IsPair s.heap TO a b)
  (h1:s.heap.IsTupleIter i1 l1 k1)(h2:s.heap.IsTupleIter i2 l2 k2)(hl1:s.heap.IsTuple l1 xs)(hl2:s.heap.IsTuple l2 ys)(hend:xs[k1]?=none\/ys[k2]?=none)
  (hE:∀h' e,(∀c o,c≠z->c≠TO->c≠i1->c≠i2->s.heap.get? c=some o->h'.get? c=some o)->(∃o,h'.get? e=some o/\o.cls= .type "StopIteration")->E (.ref e) {s with heap:=h'}):
  wpAny (model prog w) A (Builtin.«zip.__next__» ⟨[.ref z],[]⟩) Q E s:=by
 show wpAny _ _ (field (.ref z) 2>>=_) _ _ _
 refine wpAny_bind (wpAny_field hz rfl (x:= .bool _) rfl (wpAny_bind (wpAny_field hz rfl (x:= .ref TI) rfl (wpAny_bind (wpAny_seqItems hTI rfl (wpAny_bind (wpAny_bind (wpAny_field hz rfl (x:= .none) rfl (wpAny_pure ?_)))))))))
 refine wpAny_bind (wpAny_rule (wpAny_bind (wpAny_field hz rfl (x:= .ref TO) rfl (wpAny_bind (wpAny_setField_rec hz (by simp) fun _ i f=>?_)))))
 replace i:=i
 refine wpAny_bind (wpAny_bind (wpAny_bind (wpAny_onRaise ?_)))
 cases B:xs[k1]? with
 |none=>
  refine wpAny_bind (ZW hh (h1.extBut f.extBut D.i1z) (hl1.extBut f.extBut D.l1z) B fun F e g u=>?_)
  obtain⟨r,k,l⟩:=u
  have v:=g _ _ D.i1z.symm i
  refine wpAny_setField_rec v (by simp) fun y _ h=>hE y e (fun c o p _ q _ x=>h.extBut _ _ p (g _ _ q (f.extBut _ _ p x))) ⟨r,h.extBut _ _ (show e≠z from fun x=>by grind) k,l⟩
 |some x=>
  refine wpAny_bind (ZJ (h1.extBut f.extBut D.i1z) (hl1.extBut f.extBut D.l1z) B fun F _ g=>wpAny_pure ?_)
  have j:=g.extBut _ _ D.TOi1 (f.extBut _ _ D.TOz hTO)
  refine wpAny_bind (wpAny_seqItems j rfl (wpAny_bind (wpAny_updateSeq_pair j fun y _ h=>(wpAny_bind (wpAny_letGo (wpAny_pure (wpAny_bind (wpAny_bind (wpAny_onRaise (wpAny_bind (ZW hh (((h2.extBut f.extBut D.i2z).extBut g.extBut D.i12.symm).extBut h.extBut D.TOi2.symm)
   (((hl2.extBut f.extBut D.l2z).extBut g.extBut D.l2i1).extBut h.extBut D.l2TO) (show ys[k2]?=none by grind) fun _ e n u=>?_)))))))))))
  obtain⟨r,k,l⟩:=u
  have t:=n _ _ D.i2z.symm (h.extBut _ _ D.TOz.symm (g.extBut _ _ D.i1z.symm i))
  refine wpAny_setField_rec t (by simp) fun H _ m=>hE H e (fun c o p C q G x=>m.extBut _ _ p (n _ _ G (h.extBut _ _ C (g.extBut _ _ q (f.extBut _ _ p x))))) ⟨r,m.extBut _ _ (show e≠z from fun x=>by grind) k,l⟩
theorem YN{z TI TO i1 i2 l1 l2}{k1 k2}{xs ys}{x y a b}{Q}(D:ZipApart z TI TO i1 i2 l1 l2)
  (hz:IsZip s.heap z TI TO .none)(hTI:IsPair s.heap TI (.ref i1) (.ref i2))(hTO:IsPair s.heap TO a b)
  (h1:s.heap.IsTupleIter i1 l1 k1)(h2:s.heap.IsTupleIter i2 l2 k2)(hl1:s.heap.IsTuple l1 xs)(hl2:s.heap.IsTuple l2 ys)(hx:xs[k1]?=some x)(hy:ys[k2]?=some y)
  (hQ:∀h',IsZip h' z TI TO (rawInt s.heap.objs.size)->IsPair h' TO x y->h'.IsTupleIter i1 l1 (k1+1)->h'.IsTupleIter i2 l2 (k2+1)->IsPair h' s.heap.objs.size x y->h'.objs.size=s.heap.objs.size+1->
   (∀c o,c≠z->c≠TO->c≠i1->c≠i2->s.heap.get? c=some o->h'.get? c=some o)->Q (some (.ref s.heap.objs.size)) {s with heap:=h'}):
  wpAny (model prog w) A (pyNext (.ref z)) Q E s:=by
 have d:s.TypeIs (.ref z) _:=⟨_,hz,rfl⟩
 exact wpAny_bind (wpAny_attempt (wpAny_callSpecial?_slot (name:=Str.ofString "__next__") d F.slot_zip_next
  (wpAny_call_entry F.slot_zip_next d F.entry_zip_next
   (Za0 D hz hTI hTO h1 h2 hl1 hl2 hx hy fun h' k g j e i f h=>wpAny_pure (hQ h' k g j e i f h)) (F.args_zip_next_1 _))))
theorem YW{z TI TO i1 i2 l1 l2}{k1 k2}{xs ys}{a b}{Q}(hh:A.handled=none)(D:ZipApart z TI TO i1 i2 l1 l2)
  (hz:IsZip s.heap z TI TO .none)(hTI:IsPair s.heap TI (.ref i1) (.ref i2))(hTO:IsPair s.heap TO a b)
  (h1:s.heap.IsTupleIter i1 l1 k1)(h2:s.heap.IsTupleIter i2 l2 k2)(hl1:s.heap.IsTuple l1 xs)(hl2:s.heap.IsTuple l2 ys)(hend:xs[k1]?=none\/ys[k2]?=none)
  (hQ:∀h',(∀c o,c≠z->c≠TO->c≠i1->c≠i2->s.heap.get? c=some o->h'.get? c=some o)->Q none {s with heap:=h'}):wpAny (model prog w) A (pyNext (.ref z)) Q E s:=by
 have d:s.TypeIs (.ref z) _:=⟨_,hz,rfl⟩
 refine wpAny_bind (wpAny_attempt (wpAny_callSpecial?_slot d F.slot_zip_next
  (wpAny_call_entry F.slot_zip_next d F.entry_zip_next (ZaD hh D hz hTI hTO h1 h2 hl1 hl2 hend fun h' e h i=>?_) (F.args_zip_next_1 _))))
 obtain⟨o,g,f⟩:=i
 exact wpAny_bind (wpAny_isInstance (T:="StopIteration") (b:=_) ⟨o,g,f⟩ isSubtype_stop (wpAny_pure (hQ _ h)))
end
abbrev Zg2(h:Heap)(l1:Addr):Heap:=h.push {cls:= .type "tuple_iterator",data:= .fields #[.ref l1,.int 0 0]}
abbrev Zg1(h:Heap)(l1 l2:Addr):Heap:=(Zg2 h l1).push {cls:= .type "tuple_iterator",data:= .fields #[.ref l2,.int 0 0]}
abbrev Zg0(h:Heap)(l1 l2:Addr):Heap:=(Zg1 h l1 l2).push {cls:= .type "tuple",data:= .seq #[.ref h.objs.size,.ref (Zg2 h l1).objs.size]}
abbrev Zgz(h:Heap)(l1 l2:Addr):Heap:=(Zg0 h l1 l2).push {cls:= .type "tuple",data:= .seq #[.none,.none]}
abbrev Zde(h:Heap)(l1 l2:Addr):Heap:=(Zgz h l1 l2).push {cls:= .type "zip",data:= .fields #[.none,.bool false,.bool false,.ref (Zg1 h l1 l2).objs.size,.ref (Zg0 h l1 l2).objs.size]}
theorem Za2(l1 l2)(xs ys:Array _):
  Meets (Builtin.«zip.__new__» ⟨[.type "zip",.ref l1,.ref l2],[]⟩) (fun _ R s=>s.heap.IsTuple l1 xs/\s.heap.IsTuple l2 ys/\
   R (.ok (.ret (.ref (Zgz s.heap l1 l2).objs.size))) {s with heap:=Zde s.heap l1 l2}):=
 .of_wp fun prog w A R s h=>by
  obtain⟨hp,g,d,tk,os⟩:=s;obtain⟨hl1,hl2,h⟩:=h
  have hsub:=sub_zip
  have a:=hl1
  have hL2:Heap.IsTuple (Shared.heap ⟨hp.push {cls:= .type "tuple_iterator",data:= .fields #[.ref l1,.int 0 0]},g,d,tk,os⟩) l2 ys:=let⟨o,ho,r⟩:=hl2;⟨o,Heap.get?_push_of_some _ ho,r⟩
  wp_walk using wpAny_pyIter_tuple a,wpAny_pyIter_tuple hL2
  exact⟨_,rfl,h⟩
section
variable{prog:Program}{w:World}{A:Around}{E:Value->Shared->Prop}{s:Shared}
theorem ZdC{l1 l2}{xs ys}{Q}(hl1:s.heap.IsTuple l1 xs)(hl2:s.heap.IsTuple l2 ys)
  (h:∀h',IsZip h' (s.heap.objs.size+4) (s.heap.objs.size+2) (s.heap.objs.size+3) .none->IsPair h' (s.heap.objs.size+2) (.ref s.heap.objs.size) (.ref (s.heap.objs.size+1))->
   IsPair h' (s.heap.objs.size+3) .none .none->h'.IsTupleIter s.heap.objs.size l1 0->h'.IsTupleIter (s.heap.objs.size+1) l2 0->h'.objs.size=s.heap.objs.size+5->
   (∀c o,s.heap.get? c=some o->h'.get? c=some o)->Q (.ref (s.heap.objs.size+4)) {s with heap:=h'}):
  wpAny (model prog w) A (call (.type "zip") [.ref l1,.ref l2]) Q E s:=by
 refine callType_new F.called_zip (by decide) (F.typeCall_zip_2 _ _) (F.newCall_zip_2 _ _) (fun d=>F.args_object_init_3 d _ _) F.entry_zip_new
  (Za2 l1 l2 xs ys) ⟨hl1,hl2,?_⟩
 have g:(Zg2 s.heap l1).objs.size=s.heap.objs.size+1:=Heap.size_push ..
 have i:(Zg1 s.heap l1 l2).objs.size=s.heap.objs.size+2:=by simp_all
 have m:(Zg0 s.heap l1 l2).objs.size=s.heap.objs.size+3:=by simp_all
 have j:(Zgz s.heap l1 l2).objs.size=s.heap.objs.size+4:=by simp_all
 have e:(Zde s.heap l1 l2).get? (Zgz s.heap l1 l2).objs.size=some _:=Heap.get?_push_size _ rfl
 have l:(Zde s.heap l1 l2).get? (Zg0 s.heap l1 l2).objs.size=some _:=Heap.get?_push_of_some _ (Heap.get?_push_size _ rfl)
 have k:(Zde s.heap l1 l2).get? (Zg1 s.heap l1 l2).objs.size=some _:=Heap.get?_push_of_some _ (Heap.get?_push_of_some _ (Heap.get?_push_size _ rfl))
 have f:(Zde s.heap l1 l2).get? (Zg2 s.heap l1).objs.size=some _:=Heap.get?_push_of_some _ (Heap.get?_push_of_some _ (Heap.get?_push_of_some _ (Heap.get?_push_size _ rfl)))
 rw[i,m,j]at e
 rw[g,i]at k
 rw[m]at l
 rw[g]at f
 rw[j]
 exact⟨⟨_,e,rfl⟩,h _ e k l ⟨_,(show(Zde s.heap l1 l2).get? s.heap.objs.size=some _ from Heap.get?_push_of_some _ (Heap.get?_push_of_some _ (Heap.get?_push_of_some _ (Heap.get?_push_of_some _ (Heap.get?_push_size _ rfl))))),rfl,rfl⟩ ⟨_,f,rfl,rfl⟩ (show(Zde s.heap l1 l2).objs.size=s.heap.objs.size+5 by simp_all) fun c o x=>
  Heap.get?_push_of_some _ (Heap.get?_push_of_some _ (Heap.get?_push_of_some _ (Heap.get?_push_of_some _ (Heap.get?_push_of_some _ x))))⟩
end
end PySem
namespace L2
open PySem PySem.Spec PyProof.Rows
def Ity(K:PySem.W.Frag)(a c:Addr):It:=
 ⟨fun i H=>∃xs ys x y,SqT K H a xs/\SqT K H c ys/\xs[i]?=some x/\ys[i]?=some y,
  fun i H x H'=>∃T u v,x= .ref T/\H T=none/\H'=upd H T (.tup [u,v])/\(∀xs,SqT K H a xs->xs[i]?=some u)/\∀ys,SqT K H c ys->ys[i]?=some v,
  fun i H=>∃xs ys,SqT K H a xs/\SqT K H c ys/\(xs.length<=i\/ys.length<=i)⟩
structure ZSy(h:Heap)(z TI TO i1 i2 a c:Addr)(i:Nat):Prop where
 zip:IsZip h z TI TO .none
 ti:IsPair h TI (.ref i1) (.ref i2)
 to:∃u v,IsPair h TO u v
 it1:h.IsTupleIter i1 a i
 it2:h.IsTupleIter i2 c i
theorem Zep{P}{w}{K}{elts}{x1}{pos}(z TI TO i1 i2 a c)(D:ZipApart z TI TO i1 i2 a c):
  Turn P w K (.Tuple elts x1 pos) (Ity K a c) [z,TI,TO,i1,i2] z (fun i h=>ZSy h z TI TO i1 i2 a c i)where
 mem:=by simp
 obj:=fun i h st b f=>by
  obtain⟨l,g,⟨u,v,j⟩,⟨o1,e1,c1,d1⟩,⟨o2,e2,c2,d2⟩⟩:=st
  simp[List.mem_cons,List.not_mem_nil,or_false]at f
  rcases f with rfl|rfl|rfl|rfl|rfl
  ·exact⟨_,l,fun v z=>nomatch z⟩
  ·exact⟨_,g,fun v z=>nomatch z⟩
  ·exact⟨_,j,fun v z=>nomatch z⟩
  ·grind
  ·grind
 keep:=fun i h h' st k=>by
  obtain⟨l,g,⟨u,v,j⟩,⟨o1,e1,r1⟩,⟨o2,e2,r2⟩⟩:=st
  exact⟨k z (by simp) _ l,k TI (by simp) _ g,⟨u,v,k TO (by simp) _ j⟩,⟨o1,k i1 (by simp) _ e1,r1⟩,⟨o2,k i2 (by simp) _ e2,r2⟩⟩
 item:=by
  intro X hP hw hK hc i F s σ H E I hf st hg
  subst hP hw hK
  obtain⟨xs,ys,x,y,n,m,hx,hy⟩:=hg
  obtain⟨its,rv,p,l⟩:=I.tuple n
  obtain⟨jts,r,pl,hz2⟩:=I.tuple m
  obtain⟨u,hu,ru⟩:=rv.get hx
  obtain⟨v,hv,rv'⟩:=r.get hy
  obtain⟨l,g,⟨u0,v0,j⟩,h1,h2⟩:=st
  refine YN D l g j h1 h2 p pl (by simpa using hu) (by simpa using hv) fun h' a1 a2 a3 a4 a5 a6 hk=>⟨_,rfl,wpAny_letOwnedTupleGo_zip a1 fun h2' C t=>?_⟩
  have hn:=I.hok.fresh (Nat.le_refl _)
  obtain⟨o1,e1,r1⟩:=a3
  obtain⟨o2,e2,r2⟩:=a4
  refine⟨.ref s.heap.objs.size,upd H s.heap.objs.size (.tup [x,y]),(Inv.turnedL (s:={s with heap:=h'}) (t':=s.toks) (ch:=[z]) (I.turnedL (t':=s.toks) (ch:=[z,TI,TO,i1,i2]) (fun b o f q=>hk b o (fun z=>f (by simp[z])) (fun z=>f (by simp[z])) (fun z=>f (by simp[z])) (fun z=>f (by simp[z])) q) fun b f=>hf b f) (fun b o f q=>(t.2 b (fun z=>f (by simp[z]))).trans q) fun b f=>by grind).track (I.fpOk (Nat.le_refl _) hn) I.sz ⟨JI rfl,[u,v],.cons ru (.cons rv' .nil),⟨_,((t.2 _ (Nat.ne_of_gt (Heap.lt_size l))).trans a5),rfl,_,rfl⟩⟩,rfl,
   ⟨_,x,y,rfl,hn,rfl,fun zs hs=>by rw[I.tuple_inj hs n];exact hx,fun zs hs=>by rw[I.tuple_inj hs m];exact hy⟩,
   ⟨C,(t.2 _ D.TIz).trans (hk _ _ D.TIz D.TITO D.TIi1 D.TIi2 g),⟨_,_,(t.2 _ D.TOz).trans a2⟩,⟨o1,(t.2 _ D.i1z).trans e1,r1⟩,⟨o2,(t.2 _ D.i2z).trans e2,r2⟩⟩,fun b f=>?_⟩
  rw[Zf]
  ·exact((hf b f).1)
  ·intro e
   have:∃o,s.heap.get? b=some o:=by
    grind
   obtain⟨o,q⟩:=this
   rw[e]at q
   exact Nat.lt_irrefl _ (Heap.lt_size q)
 done:=by
  intro X hP hw hK hc i F s σ H E I hf st hg
  subst hP hw hK
  obtain⟨xs,ys,n,m,A⟩:=hg
  obtain⟨its,rv,p,l⟩:=I.tuple n
  obtain⟨jts,r,pl,hz2⟩:=I.tuple m
  have l1:=rv.length
  have l2:=r.length
  obtain⟨l,g,⟨u0,v0,j⟩,h1,h2⟩:=st
  refine YW (I.ok.hd hc) D l g j h1 h2 p pl ?_ fun h' hk=>⟨rfl,I.turnedL (t':=s.toks) (ch:=[z,TI,TO,i1,i2]) (fun b o f q=>hk b o (fun z=>f (by simp[z])) (fun z=>f (by simp[z])) (fun z=>f (by simp[z])) (fun z=>f (by simp[z])) q) fun b f=>hf b f⟩
  rcases A with q|q
  ·exact .inl (by simp;omega)
  ·exact .inr (by simp;omega)
 self:=fun _ _ _ _ _ st h=>wpAny_pyIter_zip st.zip h
def ZhT(K:PySem.W.Frag)(ta:TA):TI:=fun σ H R=>ta σ H fun vs H1=>∃a c,vs=[.ref a,.ref c]/\(∃xs,SqT K H1 a xs)/\(∃ys,SqT K H1 c ys)/\R (Ity K a c) H1
theorem ZgP{X}{elts}{x1}{tpos}{a b}{ta}{p pos}(hg:Gl X "zip")(hm:X.mg "zip"=none)(ha:PA X [a,b] ta)(hpl:ZV a=true)(hpl2:ZV b=true):PI X (.Tuple elts x1 tpos) (.Call (.Name "zip" p) [a,b] [] pos) (ZhT X.K ta):=by
 refine fun f s σ H R I h=>Call_ (Yy I hg hm boot_zip (PyProof.Rows.callWith_type1 (thn (ha pos f s σ H _ I h) fun _ g xq1=>?_) (Yb hpl) (Jo (by simp[hpl2]))))
 obtain⟨_,x,c,z,y⟩:=xq1
 obtain⟨o,v,e,⟨_,m⟩,⟨_,l⟩,q⟩:=y
 subst e
 obtain⟨u,_,rfl,B,k⟩:=vals2 z
 cases B
 cases k
 obtain⟨_,_,D,i⟩:=c.tuple m
 obtain⟨_,_,w,_⟩:=c.tuple l
 have r:=D
 refine ZdC r w fun _ i n j C E _ A=>wpAny_pyIter_zip i ⟨_,_,_,_,x,rfl,(c.kept (t':=g.toks) A),
  Zep _ _ _ _ _ o v (zipApart_new (show o<g.heap.objs.size by obtain⟨_,e,_⟩:=r;exact Heap.lt_size e) (show v<g.heap.objs.size by obtain⟨_,e,_⟩:=w;exact Heap.lt_size e)),⟨i,n,⟨_,_,j⟩,C,E⟩,fun b t=>?_,q⟩
 have d:g.heap.objs.size<=b:=by
  simp[List.mem_cons,List.not_mem_nil,or_false]at t
  rcases t with rfl|rfl|rfl|rfl|rfl
  ·grind
  ·grind
  ·grind
  ·exact Nat.le_refl _
  ·grind
 exact c.fpOk d (c.hok.fresh d)
end L2
namespace L2
open PySem PySem.Spec PyProof.Rows PySem.SeqAt
def nIs:Option Int->Value->Bool
 |Option.none,Value.none=>true
 |some k,v=>Value.isInt k v
 |_,_=>false
def nH:Option Int->Int
 |Option.none=>0xFCA86420
 |some k=>hashInt k
theorem Yj{k}{v}(h:nIs k v=true):(k=Option.none/\v=Value.none)\/∃i t,k=some i/\v=Value.int i t:=by
 cases k with
 |none=>
  cases v<;>first|grind|cases h
 |some i=>
  obtain⟨t,e⟩:=Value.isInt_shape h
  exact .inr ⟨i,t,rfl,e⟩
section
variable{prog:Program}{w:World}{A:Around}{E:Value->Shared->Prop}{s:Shared}
theorem Zc9{Q}(h:Q 0xFCA86420 {s with toks:=s.toks+1}):wpAny (model prog w) A (pyHash .none) Q E s:=by
 have a:s.TypeIs .none _:=rfl
 unfold pyHash
 have _:[Value.none].any Value.onHeap=_:=rfl
 refine wpAny_bind (wpAny_pure (wpAny_bind (wpAny_specialOf a F.slot_NoneType_hash.lookup ?_)))
 refine wpAny_bind (wpAny_specialOf a F.slot_NoneType_hash.lookup (wpAny_bind (wpAny_callSpecialIfBoundUnlessNone?_slot a F.slot_NoneType_hash
  (wpAny_call_entry F.slot_NoneType_hash a F.entry_NoneType_hash
   (wpAny_ret_mkInt ?_) (F.args_NoneType_hash_1 _)))))
 exact wpAny_pure h
end
def ZbH(prog)(w):PySem.KeyKind prog w (Option Int)where
 is:=nIs
 hash:=nH
 inj:=fun v a b ha hb=>by
  rcases Yj ha with⟨rfl,rfl⟩|⟨i,t,rfl,rfl⟩
  ·rcases Yj hb with⟨rfl,_⟩|⟨j,u,rfl,e⟩
   ·rfl
   ·cases e
  ·rcases Yj hb with⟨rfl,e⟩|⟨j,u,rfl,e⟩
   ·cases e
   ·injection e with e1 _;rw[e1]
 byValue:=fun k v h=>by
  rcases Yj h with⟨rfl,rfl⟩|⟨i,t,rfl,rfl⟩<;>rfl
 pyHash:=fun hv h=>by
  rcases Yj hv with⟨rfl,rfl⟩|⟨i,t,rfl,rfl⟩
  ·exact Zc9 h
  ·exact wpAny_pyHash_int h
 eqBool:=fun{A E s a b u v Q} hu hv h=>by
  rcases Yj hu with⟨rfl,rfl⟩|⟨i,t,rfl,rfl⟩
  ·rcases Yj hv with⟨rfl,rfl⟩|⟨j,u,rfl,rfl⟩
   ·exact EqAt.same _ _ _ _ _ (by simpa using h)
   ·exact EqAt.none_int j u _ _ _ _ (by simpa using h)
  ·rcases Yj hv with⟨rfl,rfl⟩|⟨j,u,rfl,rfl⟩
   ·exact EqAt.int_none i t _ _ _ _ (by simpa using h)
   ·have e:decide (some i=some j)=(i==j):=by
     by_cases z:i=j
     ·subst z;simp
     ·rw[decide_eq_false (fun q=>z (Option.some.inj q))];exact(beq_eq_false_iff_ne.mpr z).symm
    rw[e]at h
    exact wpAny_eqBool_int h
 «strs»:=fun k x t v h=>by
  rcases Yj h with⟨rfl,e⟩|⟨i,u,rfl,e⟩
  ·cases e
  ·cases e
end L2
namespace PySem
open Sem (wp)
theorem Zcl:typeLookup (.type "list") "keys"=pure none:=by kernel_rfl
section
variable{prog:Program}{w:World}{A:Around}{E:Value->Shared->Prop}{s:Shared}
theorem Zbe{a}{o}{xs}{k}{Q:Option _->Shared->Prop}(hx:s.heap.get? a=some o)(hc:o.cls= .type "list")(hdat:o.data= .seq xs k)(hd:o.dict=none)(hA:A.handled=none)
  (h:∀h' tk,(∀b o,s.heap.get? b=some o->h'.get? b=some o)->Q none {s with heap:=h',toks:=tk}):wpAny (model prog w) A (getAttr? (.ref a) "keys") Q E s:=by
 obtain⟨c,dct,dat,sl⟩:=o
 subst hc hdat hd
 obtain⟨hp,g,d,tk,os⟩:=s
 have hT:∀i,(⟨hp,g,d,i,os⟩:Shared).TypeIs (.ref a) "list":=fun _=>⟨_,hx,rfl⟩
 have f1:=sub_AttributeError
 have f3:=F.slot_list_getattribute.lookup
 have f4:=F.slot_list_getattribute.bind (.ref a)
 have f5:=am_list_getattr_none
 have hm:=Zcl
 unfold getAttr? getAttrBy? getAttrBy
 repeat (any_goals (first|assumption|exact hT _|((with_reducible show wpAny _ _ (call (Value.builtin "list.__getattribute__") _ _) _ _ _);refine call_meets F.slot_list_getattribute (hT _) am_entry_list_getattribute (F.args_list_getattribute_2 _ _) (meets_getattribute_miss_list a xs k sl "keys" _ hm (by decide+kernel) (by size_fits)) ⟨hx,hA,fun h' i e hx'=>?_⟩)|wp_step))
 obtain⟨t',u',he⟩:=hx'.there
 have hTe:∀i,(⟨h',g,d,i,os⟩:Shared).TypeIs (.ref e) "AttributeError":=fun _=>⟨_,he,rfl⟩
 unfold getattributeRaised
 repeat (any_goals (first|assumption|exact hTe _|wp_step))
 exact h _ _ hx'.keeps
end
end PySem
namespace DictL
open PySem PySem.Spec PyProof.Rows
theorem Zbm:entryFor table "dict.update.loop"=some Builtin.«dict.update.loop»:=entryFor_of_tree (by kernel_rfl)
theorem ZaR:plainId "dict.update.loop"=true:=by decide+kernel
section
variable{prog:Program}{w:World}{K:Type}[DecidableEq K]{knd:KeyKind prog w K}{A:Around}{R:Result->Shared->Prop}{I:Addr}{fp wr:List Addr}{G:Array GenState->Array GenState->Prop}{n:Nat}{P:Nat->Value->Prop}{St:Nat->Shared->Prop}
def upTo(kv:Nat->K×Value)(i:Nat):List (K×Value):=((List.range i).map kv).foldl (fun acc p=>stored acc p.1 p.2) []
theorem upTo_succ(kv:Nat->K×Value)(i):upTo kv (i+1)=stored (upTo kv i) (kv i).1 (kv i).2:=by
 unfold upTo;rw[List.range_succ,List.map_append,List.foldl_append];rfl
theorem Zdm(kvs)(k:K)(v):(stored kvs k v).length<=kvs.length+1:=by
 unfold stored
 split
 ·grind
 ·simp_all
theorem Zcz(kv:Nat->K×Value):∀i,(upTo kv i).length<=i
 |0=>Nat.le_refl _
 |i+1=>by
  rw[upTo_succ]
  have:=Zcz kv i
  have:=Zdm (upTo kv i) (kv i).1 (kv i).2
  omega
def PairAt(knd:KeyKind prog w K)(h:Heap)(b:Addr)(p:K×Value):Prop:=∃o key m,h.get? b=some o/\o.cls= .type "tuple"/\o.data= .seq #[key,p.2] m/\knd.is p.1 key=true
theorem loop(W:WalksS prog w A.in1 I fp wr G n P St)(D)(hDf:D ∉ fp)(kv)(hb:n<=1000):
  ∀(k i)(s),n-i=k->i<=n->St i s->(∀(j) v,P j v->∃b,v= .ref b/\PairAt knd s.heap b (kv j)/\b ∉ D::wr)->
   s.heap.DictOf knd D (upTo kv i)->
   (∀s',Moved (D::wr) G s s'->s'.heap.DictOf knd D (upTo kv n)->R (.ok (.ret .none)) s')->
   codeAny (model prog w) A (.builtin "dict.update.loop" ⟨[.ref D,.ref I,rawInt i,.none],[]⟩) R s:=by
 have a:∀b∈wr,b∈D::wr:=fun b hb=>List.mem_cons_of_mem _ hb
 have d:∀{s s':Shared}{f:List _},(∀b o,b ∉ wr->s.heap.get? b=some o->s'.heap.get? b=some o)->s.heap.DictOf knd D f->s'.heap.DictOf knd D f:=by
  intro s s' f hk hS
  obtain⟨o,es,ep,ho,r⟩:=hS
  exact⟨o,es,ep,hk D o (fun h=>hDf (W.sub _ h)) ho,r⟩
 intro k
 induction k with
 |zero=>
  intro i s hk hi q hv hS hR
  have hin:i=n:=by omega
  subst hin
  exact codeAny_builtin Zbm (wpAny_bind (W.done s _ _ q fun s' l=>wpAny_bind (wpAny_pure (wpAny_pure (hR s' (l.mono a) (d l.heap hS))))))
 |succ k ih=>
  intro i s hk hi q hv hS hR
  have t:i<n:=by omega
  refine codeAny_builtin Zbm (wpAny_bind (W.item i s _ _ t q fun v s' hP hst' l=>?_))
  obtain⟨b,rfl,hp,hbn⟩:=hv i v hP
  obtain⟨o,key,m,ho,hc,hd,hk'⟩:=hp
  have ho':=l.heap b o (fun z=>hbn (a b z)) ho
  refine wpAny_bind (wpAny_holding (wpAny_bind (wpAny_tryCatch ?_)))
  unfold Builtin.Dict.pairItems
  refine wpAny_bind (wpAny_typeOf (show s'.TypeIs (.ref b) "tuple" from⟨o,ho',hc⟩) ?_)
  rw[if_pos (by decide)]
  refine wpAny_bind (wpAny_seqItems ho' hd (wpAny_pure (wpAny_holding ?_)))
  have hlen:=Zcz kv i
  refine wpAny_dictSet_pairs (hsz:=L2.YI (by omega)) hk' (d l.heap hS) fun h' hD' g=>?_
  rw[<-upTo_succ]at hD'
  refine wpAny_pure ⟨plainId_quiet ZaR _,ih (i+1) _ (by omega) t (W.frame _ s' _ _ hst' (Nat.le_add_right _ _) fun c x o' e=>?_) (fun j v hj=>?_) hD' fun s'' hm'' hS''=>?_⟩
  ·rw[g.2 c (fun h:c=D=>hDf (by grind))];exact e
  ·obtain⟨b2,e2,⟨ob,key2,m2,h1,h2⟩,p⟩:=hv j v hj
   exact⟨b2,e2,⟨ob,key2,m2,(g.2 b2 (fun h:b2=D=>p (by grind))).trans (l.heap b2 ob (fun z=>p (a b2 z)) h1),h2⟩,p⟩
  ·refine hR s'' (Moved.trans W.gtrans ((l.mono a).then_heap (Nat.le_add_right _ _) fun c o' x e=>?_) hm'') hS''
   rw[g.2 c (fun h:c=D=>x (by grind))];exact e
end
section
variable{prog:Program}{w:World}{K:Type}[DecidableEq K]{knd:KeyKind prog w K}{A:Around}{E:Value->Shared->Prop}{s:Shared}
theorem call_dict_list{l}{items}{kv}{Q}(hh:A.handled=none)(hl:∃o m,s.heap.get? l=some o/\o.cls= .type "list"/\o.dict=none/\o.data= .seq items m)
  (hi:∀(i:Nat)(v:Value),items[i]?=some v->∃b,v= .ref b/\PairAt knd s.heap b (kv i)) (hb:items.size<=1000)
  (h:∀(h':Heap)(tk:Nat),h'.DictOf knd s.heap.objs.size (upTo kv items.size)->(∀b o,s.heap.get? b=some o->h'.get? b=some o)->Q (.ref s.heap.objs.size) {s with heap:=h',toks:=tk}):
  wpAny (model prog w) A (call (.type "dict") [.ref l]) Q E s:=by
 obtain⟨ol,ml,t,n,hdl,q⟩:=hl
 refine callType_codes (Q₁:=fun u s₁=>u= .ref s.heap.objs.size/\s₁={s with heap:=s.heap.push {cls:= .type "dict",data:= .dict #[]}}) F.kt_called_dict (F.kt_typeCall_dict_1 _) F.entry_dict_init (kt_code_dict_new _ ⟨rfl,rfl⟩) ?_
 rintro u s₁ ⟨rfl,rfl⟩
 have a:(s.heap.push {cls:= .type "dict",data:= .dict #[]}).DictOf knd s.heap.objs.size []:=Heap.DictOf.new s.heap
 have d:(s.heap.push {cls:= .type "dict",data:= .dict #[]}).get? l=some ol:=Heap.get?_push_of_some _ t
 refine⟨a.typeIs,F.args_dict_init_2 _ _,wpAny_bind ?_⟩
 refine wpAny_bind (wpAny_notOrdered_dict a.typeIs (wpAny_pure (wpAny_bind (wpAny_typeOf ⟨ol,d,n⟩ (wpAny_bind (Zbe d n q hdl (by simp[hh]) fun D tk1 G=>wpAny_bind (wpAny_rule ?_)))))))
 have g:=G _ _ d
 have B:D.IsList l items:=⟨ol,g,n,ml,q⟩
 refine wpAny_bind (wpAny_pyIter_list B ?_)
 have y:s.heap.objs.size<D.objs.size:=by
  obtain⟨o,_,_,ho,_⟩:=a
  exact Heap.lt_size (G _ _ ho)
 have up:∀b o,s.heap.get? b=some o->(D.push {cls:= .type "list_iterator",data:= .fields #[.ref l,.int 0 0]}).get? b=some o:=fun b o e=>Heap.get?_push_of_some _ (G _ _ (Heap.get?_push_of_some _ e))
 refine wpAny_pure ⟨plainId_quiet ZaR _,loop (knd:=knd) ((Walks.list (show A.in1.in1.handled=none by simp[hh]) D.objs.size l (Nat.ne_of_lt (Heap.lt_size g)) items).toS) s.heap.objs.size ?hf kv hb (items.size-0) 0 _ (by omega) (Nat.zero_le _)
  ⟨⟨_,Heap.get?_push_size _ rfl,rfl,rfl⟩,(B.push _)⟩ (fun i v hv=>?z) ?hS0 ?hR⟩
 case hf=>
  simp[List.mem_cons,List.mem_singleton,List.not_mem_nil,or_false,not_or]
  exact⟨Nat.ne_of_lt y,Nat.ne_of_gt (Heap.lt_size t)⟩
 case z=>
  obtain⟨b,e,o,key,m,p,h2'⟩:=hi i v hv
  have j:=Heap.lt_size p
  refine⟨b,e,⟨o,key,m,up _ _ p,h2'⟩,?_⟩
  simp[List.mem_cons,List.mem_singleton,List.not_mem_nil,or_false,not_or]
  exact⟨Nat.ne_of_lt j,Nat.ne_of_lt (Nat.lt_trans j y)⟩
 case hS0=>
  obtain⟨o,es,ep,ho,r⟩:=a
  exact⟨o,es,ep,Heap.get?_push_of_some _ (G _ _ ho),r⟩
 case hR=>
  intro s' C hS'
  obtain⟨h',g',d',tk',os'⟩:=s'
  have eg:=C.gens
  have ed:=C.drawn
  have eo:=C.os
  subst eg;subst ed;subst eo
  refine⟨rfl,h h' tk' hS' fun b o e=>?_⟩
  have j:=Heap.lt_size e
  exact C.heap b o (by grind) (up b o e)
end
end DictL
namespace L2
open PySem PySem.Spec PyProof.Rows
def nV:Option Int->V
 |Option.none=> .non
 |some i=> .int i
theorem ZhQ{P}{w}{k}{u}(r:RelV (nV k) u):(ZbH P w).is k u=true:=by
 cases k with
 |none=>cases r;rfl
 |_ i=>
  obtain⟨t,rfl⟩:=r
  show Value.isInt i (.int i t)=true
  simp[Value.isInt]
def ZeG(P:Program)(w:World)(a:Addr)(kvs:List (Option Int×V)):HO:= .ext fun h=>kvs.length<=sizeLine/\(a==sysModules)=false/\∃vs,KV kvs vs/\h.DictOf (ZbH P w) a vs
theorem ZkO{P}{w}{H}{h}{a}{kvs}{vs}(z:kvs.length<=sizeLine)(hd:(a==sysModules)=false)(rel:KV kvs vs)(dd:h.DictOf (ZbH P w) a vs):ObjOk P w H h a (ZeG P w a kvs):=by
 refine⟨⟨z,hd,vs,rel,dd⟩,let⟨o,_,_,b,_⟩:=dd;⟨o,b⟩,fun _ _ x k=>?_⟩
 obtain⟨e,g,_,c,o,f,d,b,r⟩:=x
 exact⟨e,g,_,c,o,f,d,k o b,r⟩
section
variable{X:Cx}
theorem ZkP{pins}{σ:St}{H}{s}{a}{kvs}(I:Inv X pins σ H s)(e:H a=some (ZeG X.prog X.w a kvs)):kvs.length<=sizeLine/\(a==sysModules)=false/\∃vs,KV kvs vs/\s.heap.DictOf (ZbH X.prog X.w) a vs:=(I.hok a _ e).1
def Zc3(P:Program)(w:World)(ty td:TE):TE:=fun σ H Q=>ty σ H fun y H1=>td σ H1 fun x H2=>∃a kvs k,x= .ref a/\y=nV k/\H2 a=some (ZeG P w a kvs)/\Q (.bl (!(ZP kvs k).isSome)) H2
theorem Zdx{i o}{ty td}(hi:PE X i ty)(ho:PE X o td):PC X .NotIn i o (Zc3 X.prog X.w ty td):=by
 refine fun b s σ H Q I h=>thn (hi b s σ H _ I h) fun _ l⟨y,p,m,g,q⟩=>thn (ho b l σ p _ m q) fun u _ xq1=>?_
 obtain⟨x,t,f,v,a,d,k,B,n,e,A⟩:=xq1
 subst B n
 obtain rfl:u=Value.ref a:=v
 obtain⟨z,r,_,c,j⟩:=ZkP f e
 refine wpAny_notIn_of (ZhQ g) r j.mapOf ?_
 rw[<-(c.val k).isSome_eq]
 exact⟨.bl (!(ZP d k).isSome),t,f.tok _,rfl,A⟩
def Yo(ps:List (Option Int×V)):List (Option Int×V):=ps.foldl (fun acc p=>putK acc p.1 p.2) []
inductive Ziv(P:Program)(w:World)(K:PySem.W.Frag)(xs:List V)(H:Hp)(Q:VK):Prop
 |mk (p ys:_) (ps:List (Option Int×V)) (_:xs=[.ref p]) (_:SqL K H p ys) (_:ys.length=ps.length) (_:ys.length<=1000) (_:(∀(i:Nat) y pr,ys[i]?=some y->ps[i]?=some pr->∃b,y= .ref b/\H b=some (.tup [nV pr.1,pr.2]))) (_:∀q H',Same H H'->H' q=some (ZeG P w q (Yo ps))->Q (.ref q) H')
theorem Zbz(ps):(Yo ps).length<=ps.length:=by
 have b:∀(ps a:List (Option Int×V)),(ps.foldl (fun a p=>putK a p.1 p.2) a).length<=a.length+ps.length:=by
  intro ps
  induction ps with
  |nil=>grind
  |_ p ps c=>
   intro a
   have _:=c (putK a p.1 p.2)
   have _:=ZN a p.1 p.2
   grind
 have:=b ps []
 simpa[Yo]using this
theorem Zaa{ps:List _}{kv}(h:∀i,(hi:i<ps.length)->(kv i).1=ps[i].1/\RelV ps[i].2 (kv i).2):∀n,n<=ps.length->KV (Yo (ps.take n)) (DictL.upTo kv n)
 |0,_=> .nil
 |n+1,_=>by
  obtain⟨a,b⟩:=h n (by omega)
  rw[List.take_add_one,List.getElem?_eq_getElem (by omega),DictL.upTo_succ]
  unfold Yo
  rw[List.foldl_append,a]
  exact(Zaa h n (by omega)).put _ b
theorem ZdE{k}(hr:Room k X.A):CallR X (.type "dict") (Ziv X.prog X.w X.K):=by
 intro pins s σ H xs us Q I r h
 obtain⟨p,ys,c,rfl,hp,hlen,h1000,hk,q⟩:=h
 obtain⟨u,rfl,rx⟩:=vals1 r
 cases rx
 obtain⟨vs,rv,pl,hz⟩:=I.list hp
 have hvl:=rv.length
 have ex:∀i:Nat,∃m,∀(e),m.1=c[i].1/\RelV c[i].2 m.2/\∀v,vs[i]?=some v->∃b,v= .ref b/\DictL.PairAt (ZbH X.prog X.w) _ b m:=fun i=>by
  by_cases e:i<c.length
  ·have hy:ys[i]?=some _:=List.getElem?_eq_getElem (by omega)
   obtain⟨b,eb,hb⟩:=hk i _ _ hy (List.getElem?_eq_getElem e)
   obtain⟨u2,e2,r2⟩:=rv.get hy
   obtain⟨_,its,ri,o,ho,x,n,hd⟩:=I.hok b _ hb
   obtain⟨u1,u3,rfl,ra,rb⟩:=vals2 ri
   refine⟨(c[i].1,u3),fun _=>⟨rfl,rb,fun v t=>?_⟩⟩
   rw[t]at e2
   cases e2
   rw[eb]at r2
   exact⟨b,r2,o,u1,n,ho,x,hd,ZhQ ra⟩
  ·exact⟨(none,.none),fun h=>absurd h e⟩
 obtain⟨kv,g⟩:=Classical.axiomOfChoice ex
 obtain⟨o,n,ho,x,l,hd⟩:=pl
 refine DictL.call_dict_list (knd:=ZbH X.prog X.w) (kv:=kv) hr.hd ⟨o,n,ho,x,l,hd⟩ (fun i v t=>?_) (by grind) fun h' tk hD kp=>?_
 ·have hv':vs[i]?=some v:=by simpa using t
  grind
 ·rw[(show vs.toArray.size=c.length by grind)]at hD
  have j:=Zaa (fun i e=>⟨(g i e).1,(g i e).2.1⟩) _ (Nat.le_refl _)
  rw[List.take_length]at j
  have hlp:=Zbz c
  exact⟨.ref s.heap.objs.size,_,I.laid (o:=ZeG X.prog X.w s.heap.objs.size (Yo c)) kp (Nat.le_refl _) (ZkO (YI (by omega)) (beq_eq_false_iff_ne.mpr (Ne.symm (Nat.ne_of_lt I.big))) j hD),rfl,q _ _ (Zz (I.hok.fresh (Nat.le_refl _))) Zd⟩
theorem Zcq(ps)(k):(ZP (Yo ps) k).isSome=true↔∃p∈ps,p.1=k:=by
 have c:∀(ps a:List (Option Int×V)),(ZP (ps.foldl (fun a p=>putK a p.1 p.2) a) k).isSome=true↔(ZP a k).isSome=true\/∃p∈ps,p.1=k:=by
  intro ps
  induction ps with
  |nil=>simp_all
  |_ p ps f=>
   intro a
   show(ZP (ps.foldl (fun a p=>putK _ _ _) _) k).isSome=true↔_
   rw[f,YQ]
   by_cases e:k=p.1
   ·simp_all
   ·rw[if_neg e]
    constructor
    ·rintro(h|⟨q,d,g⟩)
     ·exact .inl h
     ·exact .inr ⟨q,.tail _ d,g⟩
    ·grind
 have:=c ps []
 rw[show(Yo ps)=ps.foldl (fun a p=>putK _ _ _) []from rfl,this]
 exact⟨fun h=>h.elim (fun z=>by cases z) id,.inr⟩
end
theorem Zi{H}{d}{o}(h:H d=Option.none):Same H (upd H d o):=fun b u e=>by rw[Zf (Zk e h)];exact e
theorem Same.none{H H'}(s:Same H H'){d}(h:H' d=Option.none):H d=Option.none:=by
 cases z:H d with
 |none=>rfl
 |_ o=>rw[s d o z]at h;cases h
theorem Same.wr{H H'}(s:Same H H'){d}{o}(h:H d=Option.none):Same H (upd H' d o):=fun b u e=>by rw[Zf (Zk e h)];exact s b u e
end L2
namespace My
open PySem L2
theorem YD:bootBuiltins "len"=some (.builtin "len"):=by decide+kernel
theorem YE:bootBuiltins "isinstance"=some (.builtin "isinstance"):=by decide+kernel
theorem Zld:bootBuiltins "int"=some (.type "int"):=by decide+kernel
theorem Zgq:bootBuiltins "bool"=some (.type "bool"):=by decide+kernel
theorem Yl:bootBuiltins "tuple"=some (.type "tuple"):=by decide+kernel
theorem Zdb:bootBuiltins "list"=some (.type "list"):=by decide+kernel
theorem ZdF:bootBuiltins "range"=some (.type "range"):=by decide+kernel
theorem Zjj:bootBuiltins "max"=some (.builtin "max"):=by decide+kernel
theorem Zji:bootBuiltins "min"=some (.builtin "min"):=by decide+kernel
theorem Zle:bootBuiltins "dict"=some (.type "dict"):=by decide+kernel
structure Bi(mg:Str->Option Value):Prop where
 len:mg "len"=none
 isi:mg "isinstance"=none
 int:mg "int"=none
 bool:mg "bool"=none
 tuple:mg "tuple"=none
 list:mg "list"=none
 range:mg "range"=none
 max:mg "max"=none
 min:mg "min"=none
 zip:mg "zip"=none
 dict:mg "dict"=none
theorem kit(K)(T U)(b)(h:PySem.W.kitOne [] (.type T) (.type U)=some b):PySem.W.kitOne K (.type T) (.type U)=some b:=h
def TieOk(H:Hp)(n:Int)(t:V):Prop:=∃q i j,t=V.ref q/\H q=some (.tup [.int i,.int j])/\0<=i/\i<n/\0<=j/\j<n/\i≠j
def Ties(H:Hp)(n:Int)(ts:List V):Prop:=∀t∈ts,TieOk H n t
theorem TieOk.same{H H'}{n}{t}(h:TieOk H n t)(k:Same H H'):TieOk H' n t:=let⟨q,i,j,a,b,c⟩:=h;⟨q,i,j,a,k _ _ b,c⟩
theorem Ties.same{H H'}{n}{ts}(h:Ties H n ts)(k:Same H H'):Ties H' n ts:=fun t a=>(h t a).same k
structure NetZ(H:Hp)(p:Addr)(n:Nat)(q:Addr)(ts:List V)(es:List (Nat×Nat)):Prop where
 e1:H p=some (.tup [.int (n:Int),.ref q])
 e2:H q=some (.tup ts)
 len:ts.length=es.length
 tie:∀(i:Nat) t,ts[i]?=some t->∃a,t=V.ref a/\H a=some (.tup [.int ((es.getD i (0,0)).1:Int),.int ((es.getD i (0,0)).2:Int)])
 l200:es.length<=200
 n60:n<=60
 ok:∀e∈es,e.1<n/\e.2<n/\e.1≠e.2
theorem NetZ.same{H H':Hp}{p q:Addr}{n:Nat}{ts:List V}{es:List _}(h:NetZ H p n q ts es)(k:Same H H'):NetZ H' p n q ts es:=
 ⟨k _ _ h.e1,k _ _ h.e2,h.len,fun i t e=>let⟨a,x,y⟩:=h.tie i t e;⟨a,x,k _ _ y⟩,h.l200,h.n60,h.ok⟩
theorem getD_mem{es:List _}{k}(h:k<es.length):es.getD k (0,0)∈es:=by simp_all
theorem NetZ.at'{H}{p q}{n}{ts}{es}(h:NetZ H p n q ts es){k:Nat}(hk:k<es.length):∃a,ts[k]?=some (.ref a)/\H a=some (.tup [.int ((es.getD k (0,0)).1:Int),.int ((es.getD k (0,0)).2:Int)]):=by
 have b:k<ts.length:=by rw[h.len];exact hk
 obtain⟨a,x,y⟩:=h.tie k _ (List.getElem?_eq_getElem b)
 simp_all
theorem ZdL{H}{n}:∀{ts:List V},Ties H n ts->∃es:List (Nat×Nat),ts.length=es.length/\(∀(i:Nat) t,ts[i]?=some t->∃a,t=V.ref a/\H a=some (.tup [.int ((es.getD i (0,0)).1:Int),.int ((es.getD i (0,0)).2:Int)]))/\∀e∈es,(e.1:Int)<n/\(e.2:Int)<n/\e.1≠e.2
 |[],_=>⟨[],rfl,(fun i t e=>by grind),fun e h=>by cases h⟩
 |t::ts,h=>by
  obtain⟨es,h1,h2,h3⟩:=ZdL fun u c=>h u (.tail _ c)
  obtain⟨q,i,j,rfl,b,b1,b2,d,b4,b5⟩:=h t (.head _)
  refine⟨(i.toNat,j.toNat)::es,by grind,fun k u e=>?_,fun e he=>?_⟩
  ·cases k with
   |zero=>
    cases e
    refine⟨q,rfl,?_⟩
    show H q=some (.tup [.int ((i.toNat:Nat):Int),.int ((j.toNat:Nat):Int)])
    rw[Int.toNat_of_nonneg b1,Int.toNat_of_nonneg d]
    exact b
   |_ k=>
    simp_all
  ·grind
theorem Za9{H}{p q}{n m}{ts}(e1:H p=some (.tup [.int m,.ref q]))(e2:H q=some (.tup ts))(l:ts.length<=200)(hT:Ties H n ts)(h0:0<=m)(h60:m<=60)(hnm:n<=m):∃es,NetZ H p m.toNat q ts es:=by
 obtain⟨es,a,b,_⟩:=ZdL hT
 exact⟨es,by grind,e2,a,b,by omega,by omega,fun e _=>by grind⟩
def nl(l:List Nat):List V:=l.map fun x:Nat=>V.int x
theorem nl_get{l}{i x:Nat}(h:l[i]?=some x):(nl l)[i]?=some (.int x):=by unfold nl;simp_all
theorem nl_len(l):(nl l).length=l.length:=by unfold nl;rw[List.length_map]
def tN:Option Nat->V
 |none=> .non
 |some t=> .int t
def tv(tl:List (Option Nat)):List V:=tl.map tN
theorem Yp(tl):(tv tl).length=tl.length:=by unfold tv;rw[List.length_map]
theorem Zdg{tl}{i:Nat}{o}(h:tl[i]?=some o):(tv tl)[i]?=some (tN o):=by unfold tv;simp_all
theorem Jk{tl}{i:Nat}{x}(h:(tv tl)[i]?=some x):∃o,tl[i]?=some o/\x=tN o:=by
 unfold tv at h
 rw[List.getElem?_map]at h
 cases e:tl[i]? with
 |none=>grind
 |some o=>simp_all
theorem Zjx(o):tN o=nV (o.map fun t:Nat=>t):=by cases o<;>rfl
def At(e:Nat×Nat)(p:Nat):Prop:=p=e.1\/p=e.2
def Used(es:List (Nat×Nat))(tl:List (Option Nat))(k p t:Nat):Prop:=∃j,j<k/\tl[j]?=some (some t)/\At (es.getD j (0,0)) p
def CleanTo(es:List (Nat×Nat))(tl:List (Option Nat))(k:Nat):Prop:=∀i j t,j<i->i<k->tl[i]?=some (some t)->tl[j]?=some (some t)->∀p,At (es.getD i (0,0)) p->¬At (es.getD j (0,0)) p
theorem CleanTo.zero(es)(tl):CleanTo es tl 0:=fun i j t _ h=>absurd h (Nat.not_lt_zero _)
theorem Used.zero{es}{tl}{p t}:¬Used es tl 0 p t:=fun⟨j,h,_⟩=>absurd h (Nat.not_lt_zero _)
theorem Used.succ{es}{tl}{k p t}:Used es tl (k+1) p t↔Used es tl k p t\/(tl[k]?=some (some t)/\At (es.getD k (0,0)) p):=by
 constructor
 ·rintro⟨j,h,a,b⟩
  by_cases e:j=k
  ·grind
  ·exact .inl ⟨j,by omega,a,b⟩
 ·rintro(⟨j,h,a,b⟩|⟨a,b⟩)
  ·exact⟨j,by omega,a,b⟩
  ·exact⟨k,by omega,a,b⟩
theorem CleanTo.succ{es}{tl}{k}(h:CleanTo es tl k)(hk:∀t,tl[k]?=some (some t)->∀p,At (es.getD k (0,0)) p->¬Used es tl k p t):CleanTo es tl (k+1):=by
 intro i j t c _ f d p a b
 by_cases e:i=k
 ·subst e
  exact hk t f p a ⟨j,c,d,b⟩
 ·exact h i j t c (by omega) f d p a b
theorem CleanTo.not{es}{tl}{k p t}{n}(hk:k<n)(h1:tl[k]?=some (some t))(hp:At (es.getD k (0,0)) p)(hu:Used es tl k p t):¬CleanTo es tl n:=fun h=>by
 obtain⟨j,a,c,b⟩:=hu
 exact h k j t a hk h1 c p hp b
theorem Used.app{es}{tl}{o}{k p t}(h:k<=tl.length):Used es (tl++[o]) k p t↔Used es tl k p t:=by
 constructor
 ·rintro⟨j,c,a,b⟩
  exact⟨j,c,by rw[List.getElem?_append_left (by omega)]at a;exact a,b⟩
 ·rintro⟨j,c,a,b⟩
  exact⟨j,c,by rw[List.getElem?_append_left (by omega)];exact a,b⟩
theorem CleanTo.app{es}{tl}{o}{k}(h:k<=tl.length)(c:CleanTo es tl k):CleanTo es (tl++[o]) k:=by
 intro i j t d e a b
 rw[List.getElem?_append_left (by omega)]at a b
 exact c i j t d e a b
abbrev ky(a b:Nat):List Key:=[Sum.inl a,Sum.inl b]
theorem ZiT{a b c d}(h:ky a b=ky c d):a=c/\b=d:=by
 grind
def Keys(kvs:List (List Key×V))(R:Nat->Nat->Prop):Prop:=∀p t:Nat,(ZP kvs (ky p t)).isSome=true↔R p t
theorem Keys.put{kvs}{R}(h:Keys kvs R)(a b)(v):Keys (putK kvs (ky a b) v) (fun p t=>R p t\/(p=a/\t=b)):=by
 intro p t
 rw[YQ]
 by_cases e:ky p t=ky a b
 ·rw[if_pos e]
  exact⟨fun _=> .inr (ZiT e),fun _=>rfl⟩
 ·rw[if_neg e,h p t]
  exact⟨.inl,fun z=>z.elim id fun⟨d,c⟩=>absurd (by rw[d,c]) e⟩
theorem Keys.iff{kvs}{R S}(h:Keys kvs R)(e:∀p t,R p t↔S p t):Keys kvs S:=fun p t=>(h p t).trans (e p t)
def put{α:Type}(f:Nat->α)(k:Nat)(v:α):Nat->α:=fun i=>if i=k then v else f i
theorem put_same{α:Type}(f:Nat->α)(k:Nat)(v:α):put f k v k=v:=by unfold put;rw[if_pos rfl]
theorem put_ne{α:Type}(f:Nat->α){k i:Nat}(v:α)(h:i≠k):put f k v i=f i:=by unfold put;rw[if_neg h]
def lv(L:Nat->Nat)(n:Nat):List V:=(List.range n).map fun x:Nat=>V.int (L x:Int)
theorem Jt(L:Nat->Nat)(n:Nat):(lv L n).length=n:=by unfold lv;rw[List.length_map,List.length_range]
theorem JH(L:Nat->Nat){n k:Nat}(h:k<n):(lv L n)[k]?=some (.int (L k:Int)):=by
 unfold lv
 rw[List.getElem?_map,List.getElem?_range h]
 rfl
theorem Zck(L:Nat->Nat)(n k v:Nat):(lv L n).set k (.int (v:Int))=lv (put L k v) n:=by
 apply List.ext_getElem?
 intro i
 by_cases hi:i<n
 ·rw[JH _ hi,List.getElem?_set]
  by_cases e:k=i
  ·subst e
   rw[if_pos rfl,if_pos (by rw[Jt];exact hi),put_same]
  ·rw[if_neg e,JH _ hi,put_ne _ _ (fun z=>e z.symm)]
 ·rw[List.getElem?_eq_none (by rw[List.length_set,Jt];omega),List.getElem?_eq_none (by rw[Jt];omega)]
def cnt(tl:List (Option Nat))(t:Nat):Nat:=tl.count (some t)
theorem Zbp{tl:List (Option Nat)}{i:Nat}{o:Option Nat}(h:tl[i]?=some o)(x:Nat):cnt (tl.take (i+1)) x=cnt (tl.take i) x+if o=some x then 1 else 0:=by
 unfold cnt
 rw[List.take_add_one,h]
 show((tl.take i)++[o]).count (some x)=_
 rw[List.count_append,List.count_singleton]
 congr 1
 by_cases e:o=some x
 ·subst e;simp
 ·rw[if_neg e]
  have:¬((o==some x)=true):=fun z=>e (eq_of_beq z)
  simp[this,e]
theorem ZkB{L:Nat->Nat}{n:Nat}{F:Nat->Nat}(h:∀x,x<n->L x=F x):lv L n=nl ((List.range n).map F):=by
 unfold lv nl
 rw[List.map_map]
 refine List.map_congr_left fun x hx=>?_
 show V.int (L x:Int)=V.int (F x:Int)
 rw[h x (List.mem_range.mp hx)]
theorem Zhz{tl:List (Option Nat)}{i n t:Nat}{L:Nat->Nat}(h:tl[i]?=some (some t))(hL:∀x,x<n->L x=cnt (tl.take i) x):∀x,x<n->put L t (L t+1) x=cnt (tl.take (i+1)) x:=by
 intro x hx
 rw[Zbp h]
 by_cases e:x=t
 ·subst e
  rw[put_same,if_pos rfl,hL x hx]
 ·rw[put_ne _ _ e,if_neg (fun z=>e (Option.some.inj z).symm),hL x hx]
  rfl
theorem ZcX{tl:List (Option Nat)}{i n:Nat}{o:Option Nat}{L:Nat->Nat}(h:tl[i]?=some o)(ho:∀t,o=some t->n<=t) (hL:∀x,x<n->L x=cnt (tl.take i) x):∀x,x<n->L x=cnt (tl.take (i+1)) x:=by
 intro x hx
 rw[Zbp h,if_neg (fun z=>by have:=ho x z;omega),hL x hx]
 rfl
end My
namespace RX
open PySem PySem.Spec PyProof.Rows
def TrD(h base:Heap)(e:Addr)(cls:Value)(od:Option Addr)(fl:Value):Prop:=
 ∃oe vs T oT ts,h.get? e=some oe/\(oe.cls=cls/\oe.dict=od)/\oe.data= .fields vs/\vs[1]?=some (.ref T)/\base.get? T=none/\T≠e/\h.get? T=some oT/\oT.data= .fields ts/\ts[3]?=some fl
structure Fl(base:Heap)(l:List Env)(e:Addr)(cls:Value)(od:Option Addr)(fl:Value)(h:Heap):Prop where
 stays:base.StaysIn h
 new:base.get? e=none
 frames:h.FunFrames base l
 trace:TrD h base e cls od fl
theorem Zbn(f)(o:Obj):(o.mapFields f).dict=o.dict:=by
 unfold Obj.mapFields
 split<;>rfl
section
variable{M:Model}{A:Around}{E:Value->Shared->Prop}{s:Shared}{base:Heap}{env:Env}{outer l:List Env}{L e:Addr}{cls fl:Value}{od:Option Addr}{Q:Unit->Shared->Prop}
theorem entry_at{oe}{vs}{head}{hadNext}
  (hfr:A.frames=some (env::outer))(hl:s.heap.FunFrames base (env::outer))(hf:env.frame=some L)
  (he:s.heap.get? e=some oe)(hkb:base.StaysIn s.heap)(hen:base.get? e=none)(hd:oe.data= .fields vs)(hsz:1<vs.size)
  (h:∀h',Fl base (env::outer) e oe.cls oe.dict (rawInt L) h'->s.heap.UpToSlots h'->Q () {s with heap:=h'}):
  wpAny M A (do let a<-frameOf env;let pl<-entryPlaceOf L hadNext;let b<-EntryCells.newEntry head a .none (rawInt L) .none pl;setField (.ref e) 1 b) Q E s:=by
 have out:e ∉ (env::outer).filterMap _:=fun hm=>by
  obtain⟨_,o,ho,d⟩:=hl.mem hm
  rw[he]at ho;injection ho with ho;subst ho;exact d vs hd
 refine wpAny_bind (wpAny_frameOf_fun hfr hl hf fun k j=>wpAny_bind (wpAny_entryPlaceOf fun pl hpl=>(wpAny_bind (wpAny_newObj_type ?_ (hpl.sizeOk5 _ _ _ _ _)))))
 have he₁:=(j.2.1 e out).trans he
 have n:base.StaysIn _:=fun b o g=>(j.2.1 b fun hm=>by rw[(hl.mem hm).1]at g;cases g).trans (hkb b o g)
 generalize hot:({cls:= .type _,dict:=none,data:= .fields _}:Obj)=ot
 have he₂:=Heap.get?_push_of_some ot he₁
 refine wpAny_setField he₂ hd hsz ?_
 have hTe:=Nat.ne_of_gt (Heap.lt_size he₁)
 have hd₃:=Obj.data_mapFields hd (·.setIfInBounds 1 (Value.ref k.objs.size))
 have i:∀b o,b≠e->k.get? b=some o->((k.push ot).update e (Obj.mapFields (·.setIfInBounds 1 (Value.ref k.objs.size)))).get? b=some o:=fun b o hbe l=>by
  rw[Heap.get?_update_other _ _ (Ne.symm hbe)]
  exact Heap.get?_push_of_some _ l
 have m:∀b o,s.heap.get? b=some o->(∀vs,o.data≠.fields vs)->b≠e:=fun b o l d q=>by
  grind
 refine h _ ⟨fun b o g=>i b o (fun q=>by grind) (n b o g),hen,hl.of_keeps fun b o l d=>?_,?_⟩ fun b o l d=>?_
 ·obtain⟨sl,hs⟩:=j.2.2 b o l
  exact⟨_,i b _ (m b o l d) hs,rfl⟩
 ·exact⟨_,_,k.objs.size,_,_,(Heap.get?_update_self (Obj.mapFields (·.setIfInBounds 1 (Value.ref k.objs.size))) he₂ (Obj.isFreed_of_fields hd₃)),⟨Obj.cls_mapFields _ _,Zbn _ _⟩,hd₃,by simp[hsz],n.fresh,hTe,((Heap.get?_update_other (k.push ot) (Obj.mapFields (·.setIfInBounds 1 (Value.ref k.objs.size))) (Ne.symm hTe)).trans (Heap.get?_push_size k (show ot.isFreed=false by rw[<-hot];rfl))),(show ot.data= .fields ([head,.ref L,.none,rawInt L,.none]++(if pl.isEmpty then List.replicate 6 Value.none else pl)).toArray by rw[<-hot]),by simp_all⟩
 ·obtain⟨sl,hs⟩:=j.2.2 b o l
  exact⟨sl,i b _ (m b o l d) hs⟩
theorem Zdz{oe}{vs}(hfr:A.frames=some (env::outer))(hl:s.heap.FunFrames base (env::outer))(hf:env.frame=some L)
  (he:s.heap.get? e=some oe)(hkb:base.StaysIn s.heap)(hen:base.get? e=none)(hd:oe.data= .fields vs)(h1:vs[1]?=some .none)
  (h:∀h',Fl base (env::outer) e oe.cls oe.dict (rawInt L) h'->s.heap.UpToSlots h'->Q () {s with heap:=h'}):wpAny M A (noteFrame (.ref e) env) Q E s:=by
 unfold noteFrame
 simp[hf]
 exact wpAny_bind (wpAny_field he hd h1 (entry_at hfr hl hf he hkb hen hd (Array.getElem?_eq_some_iff.mp h1).1 h))
theorem ZdU(hfr:A.frames=some (env::outer))(hf:env.frame=some L)(x:Fl base (env::outer) e cls od .none s.heap)
  (h:∀h',Fl base (env::outer) e cls od (rawInt L) h'->s.heap.UpToSlots h'->Q () {s with heap:=h'}):wpAny M A (noteFrame (.ref e) env) Q E s:=by
 obtain⟨hkb,hen,hl,oe,vs,T,oT,ts,he,⟨hc,hdd⟩,hd,h1,hnT,hTe,hT,hdT,h3⟩:=x
 subst hc hdd
 unfold noteFrame
 simp[hf]
 refine wpAny_bind (wpAny_field he hd h1 (wpAny_bind (wpAny_field hT hdT h3 ?_)))
 refine wpAny_bind (wpAny_setField hT hdT (Array.getElem?_eq_some_iff.mp h3).1 ?_)
 have a:∀b,b≠T->(s.heap.update T (Obj.mapFields (·.setIfInBounds 3 Value.none))).get? b=s.heap.get? b:=fun b hb=>Heap.get?_update_other _ _ (Ne.symm hb)
 have notT:∀b o,s.heap.get? b=some o->(∀vs,o.data≠.fields vs)->b≠T:=fun b o hb d q=>by
  simp_all
 refine entry_at hfr (hl.of_keeps fun b o hb d=>⟨o,(a b (notT b o hb d)).trans hb,rfl⟩) hf ((a e (Ne.symm hTe)).trans he)
  (fun b o hbo=>(a b fun q=>by grind).trans (hkb b o hbo)) hen hd (Array.getElem?_eq_some_iff.mp h1).1
  fun h' x1 x2=>h h' x1 fun b o hb d=>x2 b o ((a b (notT b o hb d)).trans hb) d
theorem Jg(x:Fl base l e cls od fl s.heap)
  (h:∀h',Fl base l e cls od .none h'->s.heap.UpToSlots h'->Q () {s with heap:=h'}):wpAny M A (setFlight (.ref e) none) Q E s:=by
 obtain⟨hkb,hen,hl,oe,vs,T,oT,ts,he,hcd,hd,h1,hnT,m,hT,k,h3⟩:=x
 have g:=(Array.getElem?_eq_some_iff.mp h3).1
 have a:∀b,b≠T->(s.heap.update T (Obj.mapFields (·.setIfInBounds 3 (none.elim Value.none fun f=>rawInt f)))).get? b=s.heap.get? b:=
  fun b j=>Heap.get?_update_other _ _ (Ne.symm j)
 have i:∀b o,s.heap.get? b=some o->(∀vs,o.data≠.fields vs)->b≠T:=fun b o j d q=>by
  simp_all
 refine wpAny_bind (wpAny_field he hd h1 (wpAny_setField hT k g (h _ ⟨fun b o hbo=>(a b fun q=>by grind).trans (hkb b o hbo),hen,
  hl.of_keeps fun b o j d=>⟨o,(a b (i b o j d)).trans j,rfl⟩,?_⟩ fun b o j d=>⟨_,(a b (i b o j d)).trans j⟩)))
 exact⟨oe,vs,T,_,_,(a e (Ne.symm m)).trans he,hcd,hd,h1,hnT,m,Heap.get?_update_self _ hT (Obj.isFreed_of_fields (Obj.data_mapFields k _)),Obj.data_mapFields k _,by simp[g]⟩
theorem Fl.tail(x:Fl base (env::outer) e cls od fl s.heap):Fl base outer e cls od fl s.heap:=
 let⟨c,b,⟨_,_,d⟩,a⟩:=x
 ⟨c,b,d,a⟩
theorem ZcL{oe}{vs}(hfr:A.frames=some (env::outer))(hl:s.heap.FunFrames base (env::outer))(hf:env.frame=some L)
  (he:s.heap.get? e=some oe)(hkb:base.StaysIn s.heap)(hen:base.get? e=none)(hd:oe.data= .fields vs)(h1:vs[1]?=some .none)
  (h:∀h',Fl base outer e oe.cls oe.dict .none h'->s.heap.UpToSlots h'->Q () {s with heap:=h'}):wpAny M A (leaving env (.ref e)) Q E s:=by
 refine wpAny_bind (Zdz hfr hl hf he hkb hen hd h1 fun _ c f=>Jg c fun a b d=>h _ (Fl.tail (s:={s with heap:=a}) b) (f.trans d))
theorem ZfK(hfr:A.frames=some (env::outer))(hf:env.frame=some L)(x:Fl base (env::outer) e cls od .none s.heap)
  (h:∀h',Fl base outer e cls od .none h'->s.heap.UpToSlots h'->Q () {s with heap:=h'}):wpAny M A (leaving env (.ref e)) Q E s:=by
 refine wpAny_bind (ZdU hfr hf x fun _ c f=>Jg c fun a b d=>h _ (Fl.tail (s:={s with heap:=a}) b) (f.trans d))
end
end RX
namespace RX
open PySem PySem.Spec PyProof.Rows L2
def CXe(P:Program)(w:World):CXT:=fun outer H s E ev s'=>
 ∃e cls od H' B,ev= .ref e/\s'.os=s.os/\AllBare s'.gens/\Un (frs outer) [] H H' s.heap s'.heap/\HOk P w H' s'.heap/\Fl B outer e cls od .none s'.heap/\
  (∀b o,s.heap.get? b=some o->b ∉ frs outer->∃o',B.get? b=some o')/\(∀b u,H' b=some u->∃o,B.get? b=some o)/\E cls od H'
theorem YK{B h:Heap}{b:Addr}{o o':Obj}(k:B.StaysIn h)(e:B.get? b=some o')(q:h.get? b=some o):B.get? b=some o:=by
 have:=k b o' e
 rw[q]at this;cases this;exact e
theorem Zau{P:Program}{w:World}{H:Hp}{B h h':Heap}(x:HOk P w H h)(k:∀b u,H b=some u->∃o,B.get? b=some o) (s1:B.StaysIn h) (s2:B.StaysIn h'):HOk P w H h':=fun a u e=>by
 refine(x a u e).stay (fun b v hb q=>?_) (fun _ q=>q) fun _ _ q=>q
 have go:∀z,H b=some z->h'.get? b=some v:=fun z r=>by
  obtain⟨o,ho⟩:=k b z r
  exact s2 b v (YK s1 ho q)
 rcases hb with rfl|hb
 ·exact go u e
 ·exact go _ hb
section
variable{X:Cx}{pins:List (Addr×Obj)}{σ:L2.St}{H:Hp}{s s':Shared}{E E':XK}{ev:Value}{M:Model}{EE:Value->Shared->Prop}
theorem Zas(hst:X.stack=X.env::X.outer)(hf:X.env.frame=some X.env.locals){b:Addr}(h:b∈frs X.stack):b=X.env.locals\/b∈frs X.outer:=by
 rw[hst]at h
 unfold frs at h
 rw[List.filterMap_cons,hf]at h
 exact List.mem_cons.mp h
theorem Je(hst:X.stack=X.env::X.outer){b:Addr}(h:b∈frs X.outer):b∈frs X.stack:=by
 rw[hst]
 unfold frs at h⊢
 rw[List.filterMap_cons]
 split
 ·exact h
 ·exact List.mem_cons_of_mem _ h
theorem ZgR(hst:X.stack=X.env::X.outer)(hf:X.env.frame=some X.env.locals)(hex:X.ex=[])(I:Inv X pins σ H s)(x:CXe X.prog X.w X.stack H s E ev s')
  (hE:∀c d H',E c d H'->E' c d H'):wpAny M X.A (leaving X.env ev) (fun _ s''=>CXe X.prog X.w X.outer X.H₀ X.s₀ E' ev s'') EE s':=by
 obtain⟨e,cls,od,H',B,rfl,os,bare,un,hok,fl,k1,k2,q⟩:=x
 have noA:∀b:Addr,b ∉ X.ex:=fun b z=>by rw[hex]at z;cases z
 have fl':Fl B (X.env::X.outer) e cls od .none s'.heap:=by rw[<-hst];exact fl
 refine ZfK (by rw[<-hst];exact I.ok.frames) hf fl' fun h' f u=>⟨e,cls,od,H',B,rfl,os.trans I.os,bare,?_,Zau hok k2 fl.stays f.stays,f,?_,k2,hE _ _ _ q⟩
 ·have nL:∀b o,X.s₀.heap.get? b=some o->b≠X.env.locals:=fun b o e=>Nat.ne_of_lt (Nat.lt_of_lt_of_le (Heap.lt_size e) I.ok.above)
  have out:∀b o,X.s₀.heap.get? b=some o->b ∉ frs X.outer->b ∉ frs X.stack:=fun b o e n z=>(Zas hst hf z).elim (nL b o e) n
  have slot:∀b o,X.s₀.heap.get? b=some o->X.H₀ b=none->b∈frs X.outer->∃sl,h'.get? b=some {o with slots:=sl}:=fun b o e n hb=>by
   obtain⟨sl,e1⟩:=I.base.slot b o e n hb (noA b)
   obtain⟨sl2,e2⟩:=un.slot b _ e1 (I.base.free b o e n (noA b)) (Je hst hb) (by simp)
   obtain⟨_,o3,ho3,hnf⟩:=fl.frames.mem (Je hst hb)
   rw[e2]at ho3;cases ho3
   obtain⟨sl3,e3⟩:=u b _ e2 hnf
   exact⟨sl3,e3⟩
  have keep:∀b o,X.s₀.heap.get? b=some o->X.H₀ b=none->b ∉ frs X.outer->h'.get? b=some o:=fun b o e n hb=>by
   have e1:=I.base.keep b o e n hb (noA b)
   have e2:=un.keep b o e1 (I.base.free b o e n (noA b)) (out b o e hb) (by simp)
   obtain⟨o',h3⟩:=k1 b o e1 (out b o e hb)
   exact f.stays b o (YK fl.stays h3 e2)
  refine⟨fun b o e n hb _=>keep b o e n hb,fun b o e n hb _=>slot b o e n hb,fun b o e n _=>?_,fun b o e _=>?_,fun b xs e=>un.tups b xs (I.base.tups b xs e),fun b o xs e=>un.frzs b o xs (I.base.frzs b o xs e),fun b ps e=>?_⟩
  ·obtain⟨o',e1⟩:=I.base.there b o e (noA b)
   exact un.free b o' e1 (I.base.free b o e n (noA b)) (by simp)
  ·by_cases hb:b∈frs X.outer
   ·obtain⟨sl,z⟩:=slot b o e (I.ok.frf b hb) hb
    exact⟨_,z⟩
   ·obtain⟨o',e1⟩:=I.base.there b o e (noA b)
    obtain⟨o2,h2⟩:=k1 b o' e1 (out b o e hb)
    exact⟨o2,f.stays b o2 h2⟩
  ·obtain⟨m1,e1⟩:=I.base.tbls b ps e
   obtain⟨m2,e2⟩:=un.tbls b _ e1
   exact⟨m1++m2,by rw[e2,Array.append_assoc]⟩
 ·intro b o e hb
  obtain⟨o',e1⟩:=I.base.there b o e (noA b)
  exact k1 b o' e1 fun z=>(Zas hst hf z).elim (Nat.ne_of_lt (Nat.lt_of_lt_of_le (Heap.lt_size e) I.ok.above)) hb
end
theorem Zf5{P:Program}{w:World}{K:PySem.W.Frag}{mg:Str->Option Value}{base:Heap}{N:List Str}{qual:Str}{scope:Scope}{f:Addr}{cd:Value}{A:Around}{outer:List Env}{s:Shared}{H:Hp}{E E':XK}
  (hE:∀c d H',E' c d H'->E c d H'):Zbv (CXe P w) (Yk (CXe P w) P w K mg base N qual scope f cd A outer s H E) E':=
 fun _ _ _ _ _ _ I x=>ZgR (X:=Yk (CXe P w) P w K mg base N qual scope f cd A outer s H E) rfl rfl rfl I x hE
end RX
namespace RX
open PySem PySem.Spec PyProof.Rows L2 PySem.W
open Builtin Builtin.ObjectAttr
abbrev Zb6:List Value:=[.type "ValueError",.type "Exception",.type "BaseException",.type "object"]
def Zcc(e:DictEntry):Bool:=match e.key with| .str _ _=>true|_=>false
def Zcx(K:Frag)(C D:Addr):Bool:=match K.lookup C,K.lookup D with
 |some ⟨c,_,.cls cd,sl⟩,some ⟨_,_,.cls dd,_⟩=>c== .type "type"&&cd.mro== .ref C:: .ref D::Zb6&& !cd.hasDel&&cd.hasDict&&sl.toList.length==6&&(sl.toList[4]?).join==some (.builtin "ValueError.__new__")&&
   (match K.lookup dd.ns with|some ⟨_,_,.dict es _,_⟩=>es.toList.all Zcc&&(nsFind es "__init__").isNone|_=>false)
 |_,_=>false
theorem ZaM{es}(h:es.toList.all Zcc=true):StrKeys es:=by
 intro e a
 have q:=List.all_eq_true.mp h e (by simpa using a)
 unfold Zcc at q
 grind
def ClsAt(h:Heap)(C D:Addr):Prop:=OwnTail h Zb6 (.ref D::Zb6)/\∃nm q N bs sn sub ab col dd k0 k1 k2 k3 k5,h.get? C=some (excClassObj nm q C N bs (.ref D::Zb6) true sn sub ab col dd k0 k1 k2 k3 k5 "ValueError.__new__")
theorem Jw{K}{h}{C D}(X:K.In h)(e:Zcx K C D=true):ClsAt h C D:=by
 unfold Zcx at e
 split at e
 ·rename_i c _ f s _ _ _ _ j n
  simp only[Bool.and_eq_true,Bool.not_eq_true',beq_iff_eq]at e
  obtain⟨⟨⟨⟨⟨⟨i,m⟩,q⟩,k⟩,p⟩,d⟩,a⟩:=e
  split at a
  ·rename_i _ _ r o _ t
   rw[Bool.and_eq_true]at a
   refine⟨.own (X _ _ n) ⟨_,r,o,X _ _ t,rfl,ZaM a.1,fun _=>rfl⟩ (by simpa using a.2) .base,?_⟩
   obtain⟨_,_,_,_,_,_,_,sub,_,_,_⟩:=f
   subst i m q k
   obtain⟨l⟩:=s
   match l,p,d with
   |[_,_,_,_,g,_],_,d=>
    have b:g=some (.builtin "ValueError.__new__"):=by simpa using d
    subst b
    exact⟨_,_,_,_,_,_,_,_,_,_,_,_,_,_,X _ _ j⟩
  ·cases a
 ·cases e
theorem ClsAt.keeps{h h':Heap}{C D:Addr}(x:ClsAt h C D)(k:∀b o,h.get? b=some o->h'.get? b=some o):ClsAt h' C D:=by
 obtain⟨T,nm,q,N,bs,sn,sub,ab,col,dd,k0,k1,k2,k3,k5,hC⟩:=x
 exact⟨T.keeps k,_,_,_,_,_,_,_,_,_,_,_,_,_,_,k _ _ hC⟩
section
variable{prog:Program}{w:World}{A:Around}{E:Value->Shared->Prop}{h:Heap}{g:Array GenState}{d:Drawn}{t:Nat}{os:OsState}{C D:Addr}
abbrev Y2(rest:List Value):Obj:={cls:= .type "tuple",data:= .seq rest.toArray}
abbrev Zdr(t:Addr):Array Value:=#[.ref t,.none,.none,.none,.bool false,.none]
abbrev Zbx(C t:Addr):Obj:={cls:= .ref C,data:= .fields (Zdr t)}
theorem ZaG{rest}{fI}{Q}(hc:ClsAt h C D)(hi:Looks (model prog w) h (typeLookup (.ref C) "__init__") (some (.ref fI)))
  (hb:∀self,Looks (model prog w) h (bindSpecial (.ref fI) self) (.ref fI,[self]))
  (hq:wpAny (model prog w) A (call (.ref fI) (.ref (h.objs.size+1)::rest)) (fun r s'=>r= .none/\Q (.done (.ret (.ref (h.objs.size+1)))) s') E
   ⟨(h.push (Y2 rest)).push (Zbx C h.objs.size),g,d,t,os⟩) (hrest:rest.length<=sizeLine):
  wpAny (model prog w) A (Builtin.«type.__call__» ⟨.ref C::rest,[]⟩) Q E ⟨h,g,d,t,os⟩:=by
 obtain⟨T,nm,q,N,bs,sn,sub,ab,col,dd,k0,k1,k2,k3,k5,a⟩:=hc
 have F:=PySem.F.excBase_ValueError
 repeat (first|with_reducible refine wpAny_loadPart_at a ?_|with_reducible refine wpAny_madeBy_exc a ?_|wp_step)
 refine codeAny_call_builtin_code (Code.quiet_builtin _ F.quiet) (wpAny_check_new_subT F T a (codeAny_exc_new_subT F T a ?_ hrest))
 have k:∀b o,h.get? b=some o->((h.push (Y2 rest)).push (Zbx C h.objs.size)).get? b=some o:=fun b o e=>Heap.get?_push_of_some _ (Heap.get?_push_of_some _ e)
 repeat (first|with_reducible refine wpAny_loadPart_at hget ?_|(with_reducible refine wpAny_isSubtype_exc (Heap.get?_push_of_some {cls:= .ref C,data:= .fields #[.ref h.objs.size,.none,.none,.none,.bool false,.none]} (Heap.get?_push_of_some {cls:= .type "tuple",data:= .seq rest.toArray} a)) ?_)|wp_step)
 refine(hi.keeps k).here (s:=⟨(h.push (Y2 rest)).push (Zbx C h.objs.size),g,d,t,os⟩) (wpAny_holding (wpAny_bind (((hb (.ref (h.objs.size+1))).keeps k).here (s:=⟨(h.push (Y2 rest)).push (Zbx C h.objs.size),g,d,t,os⟩) (wpAny_bind (wpAny_mono hq (fun r s' hr=>?_) fun _ _ x=>x)))))
 obtain⟨rfl,hQ⟩:=hr
 wp_walk
 exact hQ
theorem Zb5{rest}{fI}{Q}(hc:ClsAt h C D)(hi:Looks (model prog w) h (typeLookup (.ref C) "__init__") (some (.ref fI)))
  (hb:∀self,Looks (model prog w) h (bindSpecial (.ref fI) self) (.ref fI,[self]))
  (hq:wpAny (model prog w) (A.under (.builtin "type.__call__" ⟨.ref C::rest,[]⟩)) (call (.ref fI) (.ref (h.objs.size+1)::rest)) (fun r s'=>r= .none/\Q (.ref (h.objs.size+1)) s') E
   ⟨(h.push (Y2 rest)).push (Zbx C h.objs.size),g,d,t,os⟩) (hrest:rest.length<=sizeLine):
  wpAny (model prog w) A (call (.ref C) rest) Q E ⟨h,g,d,t,os⟩:=by
 obtain⟨T,_,q,N,_,_,sub,_,_,_,_,_,_,_,_,a⟩:=id hc
 have _:=tc_lookup
 have _:=tc_bind (.ref C)
 refine wpAny_call (codeAny_of_tree ?_)
 repeat (any_goals (first|assumption|with_reducible refine wpAny_loadPart_at a ?_|wp_step))
 exact⟨rfl,codeAny_call_builtin_at (Code.quiet_builtin _ (by decide+kernel)) entry_typeCall (wpAny_check_type_call_sub a (ZaG hc hi hb hq hrest))⟩
theorem Zbr{rest}{Q}(hc:ClsAt h C D)(hN:∃mN,(∀nm q N bs sn sub ab col dd k0 k1 k2 k3 k5,h.get? C=some (excClassObj nm q C N bs (.ref D::Zb6) true sn sub ab col dd k0 k1 k2 k3 k5 "ValueError.__new__")->h.Ns N mN)/\mN "__init__"=none)
  (hq:∀h' e,Heap.MadeExcOf h h' e (.ref C) rest->Q (.ref e) ⟨h',g,d,t,os⟩) (hrest:rest.length<=sizeLine):wpAny (model prog w) A (call (.ref C) rest) Q E ⟨h,g,d,t,os⟩:=by
 obtain⟨T,nm,q,N,bs,sn,sub,ab,col,dd,k0,k1,k2,k3,k5,b⟩:=hc
 obtain⟨mN,c,a⟩:=hN
 exact wpAny_call_exc_subT PySem.F.excBase_ValueError T b (c _ _ _ _ _ _ _ _ _ _ _ _ _ _ b) a hq hrest
end
section
variable{prog:Program}{w:World}{A:Around}{E:Value->Shared->Prop}{K:Frag}{C D x:Addr}{s:Shared}
theorem ZgG{vs}{name}{v}{Q}(X:K.In s.heap)(hc:Zcx K C D=true)(hs:findIn K (.ref C) "__setattr__"=some (some (.builtin "object.__setattr__")))(ha:findIn K (.ref C) name=some none)
  (hx:s.heap.get? x=some ⟨.ref C,none,.fields vs,#[]⟩)
  (hq:∀h' tk,h'.get? x=some ⟨.ref C,some s.heap.objs.size,.fields vs,#[]⟩->h'.Ns1 s.heap.objs.size (fun y=>if y=name then some v else none)->(∀b o,b≠x->s.heap.get? b=some o->h'.get? b=some o)->Q () {s with heap:=h',toks:=tk}):
  wpAny (model prog w) A (setAttr (.ref x) name v) Q E s:=by
 have n:=PySem.F.store_ValueError
 have I:InstAt _ x _ C none:=⟨hx,rfl,rfl,trivial⟩
 refine set_plain X I hs ?_
 obtain⟨T,nm,q,N,bs,sn,sub,ab,col,dd,k0,k1,k2,k3,k5,hC⟩:=Jw X hc
 obtain⟨h,g,d,t,os⟩:=s
 have hm:Looks (model prog w) h (mroOf (.ref C)) _:=((Looks.ld hC).andThen .now).andThen .now
 have z:Looks _ h (isInstance (.ref x) (.type "object")) _:=I.type.andThen (by
  unfold isSubtype
  exact hm.andThen .now)
 refine codeAny_call_builtin n.slot.plain n.entry (@check_slot (model prog w) _ _ ⟨h,g,d,t+1,os⟩ "object.__setattr__" "object" "__setattr__" (.ref x) [.str name t,v] [] _ n.kind n.split z (n.args (.ref x) (.str name t) v) ?_)
 rw[osa_eq,refuse_eq]
 refine wpAny_bind (wpAny_bind (I.type.here (s:=⟨h,g,d,t+1,os⟩) (wpAny_bind (hm.here (s:=⟨h,g,d,t+1,os⟩) ?_))))
 rw[refuseLoop_ref,refuseLoop_ref,n.passes]
 refine wpAny_pure (wpAny_bind (I.type.here (s:=⟨h,g,d,t+1,os⟩) (wpAny_bind ((looks_findIn X ha).here (s:=⟨h,g,d,t+1,os⟩) (wpAny_bind (wpAny_pure ?_))))))
 have G:(h.push {cls:= .type "dict",data:= .dict #[]}).get? x=some ⟨.ref C,none,.fields vs,#[]⟩:=Heap.get?_push_of_some _ hx
 have p:=Nat.ne_of_lt (Heap.lt_size hx)
 refine wpAny_bind (wpAny_pure (wpAny_bind (wpAny_bind (wpAny_loadPart hx (wpAny_bind (wpAny_bind (wpAny_load hC (wpAny_pure (wpAny_bind (wpAny_alloc' (wpAny_bind (wpAny_update' G (wpAny_pure ?_)))))))))))))
 have hnd:((h.push {cls:= .type "dict",data:= .dict #[]}).update x fun o=>{cls:=o.cls,dict:=some h.objs.size,data:=o.data,slots:=o.slots}).Ns h.objs.size (fun _=>none):=
  ⟨_,#[],_,(show((h.push {cls:= .type "dict",data:= .dict #[]}).update x fun o=>{cls:=o.cls,dict:=some h.objs.size,data:=o.data,slots:=o.slots}).get? h.objs.size
   =some {cls:= .type "dict",data:= .dict #[]}from(Heap.get?_update_ne _ _ _ _ p.symm).trans (Heap.get?_push_at rfl rfl)),rfl,fun e he=>absurd he (by simp),fun _=>rfl⟩
 refine wpAny_bind (wpAny_pure (wpAny_bind (wpAny_nsSet1 (Heap.Ns1.of_empty hnd) fun h' u hs=>?_)))
 obtain⟨oD,esD,epD,hoD,hdD,hcD⟩:=u.count (PySem.Within.cons name v PySem.Within.nil)
 refine wpAny_bind (wpAny_lookBehind hoD (by rw[hdD];exact pastItsLine_dict (Nat.le_trans hcD (by grind))) (wpAny_pure (hq h' _ ?_ u fun b o hb e=>?_)))
 ·exact(hs.2 x p).trans (Heap.get?_update_self _ G rfl)
 ·exact(hs.2 b (Nat.ne_of_lt (Heap.lt_size e))).trans ((Heap.get?_update_ne _ _ _ _ hb).trans (Heap.get?_push_of_some _ e))
end
end RX
namespace RX
open PySem PySem.Spec PyProof.Rows L2 PySem.W
def XV(C:Addr)(od:Option Addr)(fv:Array Value)(e:Addr):HO:= .ext fun h=>h.get? e=some ⟨.ref C,od,.fields fv,#[]⟩
theorem XV.ok{P}{w}{H}{h}{C e}{od}{fv}(x:h.get? e=some ⟨.ref C,od,.fields fv,#[]⟩):ObjOk P w H h e (XV C od fv e):=
 ⟨x,⟨_,x⟩,fun _ _ p k=>k _ p⟩
theorem XV.get{P}{w}{H}{h}{C e}{od}{fv}(x:HOk P w H h)(q:H e=some (XV C od fv e)):h.get? e=some ⟨.ref C,od,.fields fv,#[]⟩:=(x e _ q).1
structure XCl(K:Frag)(C D:Addr):Prop where
 cls:Zcx K C D=true
 sa:findIn K (.ref C) "__setattr__"=some (some (.builtin "object.__setattr__"))
 kp:keepIn K (.ref C)=true
def ZjC(K:Frag)(ta tv:TE)(f:Str):TS:=fun D σ H=>tv σ H fun y H1=>ta σ H1 fun x H2=>∃e C Dd fv,x= .ref e/\H2 e=some (XV C none fv e)/\XCl K C Dd/\findIn K (.ref C) f=some none/\
 ∀dx,H2 dx=none->dx≠e->D.nx σ (upd (upd H2 dx (.xd [(f,y)])) e (XV C (some dx) fv e))
section
variable{X:Cx}{o value:Expr}{f:Str}{pos pos':Pos}{ta tv:TE}
theorem ZdP(ha:PE X o ta)(hv:PE X value tv)(hs:swapsWith value (some (.Attribute o f pos')) pos.line X.env=pure false):PS X (.Assign [.Attribute o f pos'] value pos) (ZjC X.K ta tv f):=by
 refine fun k s σ H D I h=>plainObj_wpAny_Assign_Attribute (thn (hv k s σ H _ I h) fun u s1⟨y,H1,I1,ry,q⟩=>thn (ha k s1 σ H1 _ I1 q) fun ov l xq1=>?_) hs
 obtain⟨x,p,I2,rx,e,C,Dd,fv,ex,ea,c,n,q2⟩:=xq1
 subst ex
 obtain rfl:ov=Value.ref e:=rx
 have hx:=XV.get I2.hok ea
 have hn:=I2.hok.fresh (Nat.le_refl _)
 refine ZgG I2.kIn c.cls c.sa n hx fun h' tk g1 g2 g3=>?_
 have i:∀b v,p b=some v->(∀φ,v≠.ext φ)->b≠e:=fun b v r nv z=>by rw[z,ea]at r;exact nv _ (Option.some.inj r).symm
 have d:∀b v,p b=some v->b≠l.heap.objs.size:=fun b v r z=>by rw[z,hn]at r;cases r
 have m:∀b,p b=none->b≠e:=fun b r z=>by rw[z,ea]at r;cases r
 have a:∀b,b≠e->b≠l.heap.objs.size->upd (upd p l.heap.objs.size (.xd [(f,y)])) e (XV C (some l.heap.objs.size) fv e) b=p b:=fun b h1 h2=>by rw[Zf h1,Zf h2]
 refine⟨σ,_,I2.un (H':=upd (upd p l.heap.objs.size (.xd [(f,y)])) e (XV C (some l.heap.objs.size) fv e)) (h':=h') (t':=tk) ⟨?_,?_,?_,?_,?_,?_,?_⟩ fun b v r=>?_,q2 _ hn (Nat.ne_of_gt (Heap.lt_size hx))⟩
 ·exact fun b j r n _ _=>g3 b j (m b n) r
 ·exact fun b j r n _ _=>⟨j.slots,g3 b j (m b n) r⟩
 ·exact fun b j r n _=>by rw[a b (m b n) (Nat.ne_of_lt (Heap.lt_size r))];exact n
 ·grind
 ·exact fun b xs r=>by rw[a b (i b _ r fun _=>by simp) (d b _ r)];exact r
 ·exact fun b j xs r=>by rw[a b (i b _ r fun _=>by simp) (d b _ r)];exact r
 ·exact fun b ps r=>⟨#[],by rw[a b (i b _ r fun _=>by simp) (d b _ r),r];simp⟩
 ·by_cases z:b=e
  ·subst z;rw[Zd]at r;cases r;exact XV.ok g1
  ·by_cases z2:b=l.heap.objs.size
   ·subst z2
    rw[Zf z,Zd]at r;cases r
    refine⟨_,g2,fun g=>?_⟩
    by_cases w:g=f
    ·subst w
     rw[if_pos rfl,List.lookup_cons_self];exact ry
    ·rw[if_neg w,show List.lookup g [(f,y)]=none from by unfold List.lookup;rw[beq_eq_false_iff_ne.mpr w];rfl];trivial
   ·rw[a b z z2]at r
    refine(I2.hok b v r).stay (fun c j hc q=>g3 c j ?_ q) (fun c q=>?_) fun c xs q=>?_
    ·grind
    ·rw[a c (i c _ q fun _=>by simp) (d c _ q)];exact q
    ·rw[a c (i c _ q fun _=>by simp) (d c _ q)];exact q
end
section
variable{M:Model}{A:Around}{E:Value->Shared->Prop}{s:Shared}{env:Env}{C D:Addr}{Q:Flow->Shared->Prop}
theorem Zds{x}(hh:A.handled=none)
  (h:wpAny M A x (fun v s₁=>∃e t od,v= .ref e/\ClsAt s₁.heap C D/\s₁.heap.get? e=some {cls:= .ref C,dict:=od,data:= .fields #[.ref t,.none,.none,.none,.bool false,.none]}/\E (.ref e) s₁) E s):wpAny M A (raiseStmt env (some x) none) Q E s:=by
 refine wpAny_bind (wpAny_mono h (fun v s₁ b=>?_) fun _ _ x=>x)
 obtain⟨e,t,od,rfl,⟨T,_,q,N,_,_,sub,_,_,_,_,_,_,_,_,a⟩,c,f⟩:=b
 obtain⟨_,g,d,_,os⟩:=s₁
 repeat (first|with_reducible refine wpAny_loadPart_at c ?_|with_reducible refine wpAny_loadPart_at a ?_|(with_reducible refine wpAny_isSubtype_exc a ?_)|wp_step)
 exact wpAny_raiseNew_none hh f
theorem Zbl{prog}{w}{ex}{pos}(hh:A.handled=none)
  (h:wpAny (model prog w) A (eval ex env) (fun v s₁=>∃e t od,v= .ref e/\ClsAt s₁.heap C D/\s₁.heap.get? e=some {cls:= .ref C,dict:=od,data:= .fields #[.ref t,.none,.none,.none,.bool false,.none]}/\E (.ref e) s₁) E s):
  wpAny (model prog w) A (exec (.Raise (some ex) none pos) env) Q E s:=by
 first
  |exact wpAny_bind (wpAny_standAt (Zds hh (wpAny_bind (wpAny_mono h (fun v _ a=>wpAny_bind (wpAny_standAt (wpAny_pure a))) fun _ _ x=>x))))
  |omega
end
theorem ZfC{P}{w}{H}{h}{a}{o}(x:ObjOk P w H h a o):∃u,h.get? a=some u:=by
 cases o with
 |lst d=>obtain⟨_,_,_,_,e⟩:=x;exact⟨_,e⟩
 |tup d=>obtain⟨_,_,_,o,e,_⟩:=x;exact⟨_,e⟩
 |dK b=>obtain⟨_,_,_,_,o,_,_,e,_⟩:=x;exact⟨_,e⟩
 |dT b=>obtain⟨_,_,_,_,o,_,_,e,_⟩:=x;exact⟨_,e⟩
 |set S n=>obtain⟨o,_,_,_,e,_⟩:=x;exact⟨_,e⟩
 |ins C _ c=>obtain⟨_,_,_,e,_⟩:=x;exact⟨_,e⟩
 |own y=>exact x
 |xd c=>obtain⟨_,⟨_,_,_,e,_⟩,_⟩:=x;exact⟨_,e⟩
 |rng lo _=>obtain⟨_,_,_,e⟩:=x;exact⟨_,e⟩
 |frz _ u=>obtain⟨e,_⟩:=x;exact⟨_,e⟩
 |tbl _=>exact⟨_,x⟩
 |met f y=>exact⟨_,x⟩
 |_ φ=>obtain⟨_,e,_⟩:=x;exact e
def Zc1(H:Hp)(e:Addr):Hp:=fun b=>if b=e then none else H b
theorem YY{H}{e b}(h:b≠e):Zc1 H e b=H b:=by unfold Zc1;rw[if_neg h]
theorem Zaj{H}{e}:Zc1 H e e=none:=by unfold Zc1;rw[if_pos rfl]
section
variable{X:Cx}{pins:List (Addr×Obj)}{σ:L2.St}{H:Hp}{s:Shared}
theorem ZfQ{e:Addr}(I:L2.Inv X pins σ H s){φ:Heap->Prop}(he:H e=some (.ext φ)):L2.Inv X pins σ (Zc1 H e) s:=by
 have a:∀b,H b=none->Zc1 H e b=none:=fun b q=>by unfold Zc1;grind
 have f:∀b v,H b=some v->(∀φ,v≠.ext φ)->b≠e:=fun b v r _ z=>by grind
 refine⟨I.ok,I.os,I.bare,⟨I.base.keep,I.base.slot,fun b o q n j=>a b (I.base.free b o q n j),I.base.there,fun b g q=>?_,fun b o g q=>?_,fun b i q=>?_⟩,I.loc,I.cell,a _ I.free,fun x c q=>a _ (I.freeC x c q),fun p h=>?_,fun b u q=>?_,I.len⟩
 ·have r:=I.base.tups b g q
  rw[YY (f b _ r fun _=>by simp)];exact r
 ·have r:=I.base.frzs b o g q
  rw[YY (f b _ r fun _=>by simp)];exact r
 ·obtain⟨m,r⟩:=I.base.tbls b i q
  exact⟨m,by rw[YY (f b _ r fun _=>by simp)];exact r⟩
 ·obtain⟨_,n,r⟩:=I.pin p h
  simp_all
 ·rw[YY (show b≠e from fun z=>by rw[z,Zaj]at q;cases q)]at q
  refine(I.hok b u q).stay (fun _ _ _ z=>z) (fun c z=>?_) fun c g z=>?_
  ·rw[YY (f c _ z fun _=>by simp)];exact z
  ·rw[YY (f c _ z fun _=>by simp)];exact z
theorem Zc2{outer:List _}{H₀ H':Hp}{h₀ h h' B:Heap}(un:Un (frs outer) [] H₀ H' h₀ h)(s1:B.StaysIn h)(s2:B.StaysIn h')(k1:∀b o,h₀.get? b=some o->b ∉ frs outer->∃o',B.get? b=some o')
  (frf:∀b∈frs outer,H₀ b=none) (nf:∀b∈frs outer,∀o,h.get? b=some o->∀vs,o.data≠.fields vs) (u:h.UpToSlots h'):Un (frs outer) [] H₀ H' h₀ h':=by
 have c:∀b o,h₀.get? b=some o->H₀ b=none->b∈frs _->∃f,h'.get? b=some {o with slots:=f}:=fun b o e n a=>by
  obtain⟨f,g⟩:=un.slot b o e n a (by simp)
  obtain⟨_,i⟩:=u b _ g (nf b a _ g)
  exact⟨_,i⟩
 refine⟨fun b o e n a _=>?_,fun b o e n a _=>c b o e n a,un.free,fun b o e _=>?_,un.tups,un.frzs,un.tbls⟩
 ·obtain⟨o',d⟩:=k1 b o e a
  exact s2 b o (YK s1 d (un.keep b o e n a (by simp)))
 ·by_cases a:b∈frs outer
  ·grind
  ·obtain⟨o',d⟩:=k1 b o e a
   exact⟨o',s2 b o' d⟩
theorem JQ{M}{EE:Value->Shared->Prop}{E:XK}{e C t}{od:Option _}(hst:X.stack=X.env::X.outer)(hf:X.env.frame=some X.env.locals)(hex:X.ex=[])(I:L2.Inv X pins σ H s)
  (hn:X.s₀.heap.get? e=none)(he:s.heap.get? e=some {cls:= .ref C,dict:=od,data:= .fields #[.ref t,.none,.none,.none,.bool false,.none]})(hu:H e=none)(q:E (.ref C) od H):
  wpAny M X.A (leaving X.env (.ref e)) (fun _ s''=>CXe X.prog X.w X.outer X.H₀ X.s₀ E (.ref e) s'') EE s:=by
 have d:∀b:Addr,b ∉ X.ex:=fun b z=>by grind
 have st:(hideAll s.heap (e::frs X.stack)).StaysIn _:=fun b o q=>of_hideAll _ q
 have m:s.heap.FunFrames (hideAll s.heap (e::frs X.stack)) (X.env::X.outer):=by
  have:=I.stack
  rw[hst]at this
  exact funFrames_hide this fun h he a r=>List.mem_cons_of_mem _ (by rw[hst];exact List.mem_filterMap.mpr ⟨h,he,r⟩)
 have n:∀b o,X.s₀.heap.get? b=some o->b ∉ frs _->∃g,(hideAll s.heap (e::frs X.stack)).get? b=some g:=fun b o q j=>by
  obtain⟨g,v⟩:=I.base.there b o q (d b)
  refine⟨g,hideAll_get _ v fun i=>?_⟩
  rcases List.mem_cons.mp i with z|z
  ·grind
  ·exact(Zas hst hf z).elim (Nat.ne_of_lt (Nat.lt_of_lt_of_le (Heap.lt_size q) I.ok.above)) j
 have p:∀b u,H b=some u->∃o,(hideAll s.heap (e::frs X.stack)).get? b=some o:=fun b u q=>by
  obtain⟨o,l⟩:=ZfC (I.hok b u q)
  refine⟨o,hideAll_get _ l fun i=>?_⟩
  rcases List.mem_cons.mp i with z|z
  ·grind
  ·rw[I.stkFree b z]at q;cases q
 refine ZcL (base:=hideAll s.heap (e::frs X.stack)) (by rw[<-hst];exact I.ok.frames) m hf he st (hideAll_none _ List.mem_cons_self) rfl rfl fun _ k u=>⟨e,.ref C,od,H,_,rfl,I.os,I.bare,Zc2 (show Un (frs X.outer) [] X.H₀ H X.s₀.heap s.heap from I.base.mono (fun _ z=>z) fun b z=>absurd z (d b)) st k.stays n I.ok.frf (fun b j o l=>?_) u,Zau I.hok p st k.stays,k,n,p,q⟩
 obtain⟨_,g,_,_⟩:=m.mem (by have:=Je hst j;rw[hst]at this;exact this)
 grind
end
inductive ZaN(C:Addr)(f:Str)(vs:List V)(H:Hp)(Q:VK)(_z3:XK):Prop
 |mk (e fv y:_) (_:vs=[.ref e,y]) (_:H e=some (XV C none fv e)) (_:∀dx,H dx=none->dx≠e->Q .non (upd (upd H dx (.xd [(f,y)])) e (XV C (some dx) fv e)))
def ZgI(C:Addr)(f:Str)(E:XK)(t:TA):TS:=fun _ σ H=>t σ H fun vs H1=>∃y,vs=[y]/\∀dx,H1 dx=none->E (.ref C) (some dx) (upd H1 dx (.xd [(f,y)]))
section
variable{X:Cx}{k:Nat}{C D fI:Addr}{fd:FuncData}{ps:List Str}{E:XK}{x f:Str}{np pos cpos:Pos}{arg:Expr}{t:TA}
theorem ZbD(c:XCl X.K C D)(hi:findIn X.K (.ref C) "__init__"=some (some (.ref fI)))(hfn:isFn X.K (.ref fI)=true)
  (F:FnOk X.prog X.w X.K X.mg X.base CX0 k fI fd ps (ZaN C f))(hr:Room (k+1) X.A)(hb:L2.Binds X.K fd ps [])(hg:Gl X x)(hm:X.mg x=some (.ref C))(ha:PA X [arg] t)
  (hst:X.stack=X.env::X.outer)(hf:X.env.frame=some X.env.locals)(hex:X.ex=[])
  (hxe:∀e s',wpAny (model X.prog X.w) X.A (leaving X.env e) (fun _ s''=>CXe X.prog X.w X.outer X.H₀ X.s₀ E e s'') (fun e' s''=>CXe X.prog X.w X.outer X.H₀ X.s₀ E e' s'') s'->X.xe e s')
  (hdb:(x==("__debug__":Str))=false:=by decide) (he:starEach [arg] X.env=(false,eval arg X.env)::starEach [] X.env:=by rfl):
  PS X (.Raise (some (.Call (.Name x np) [arg] [] cpos)) none pos) (ZgI C f E t):=by
 refine fun pins s σ H Dn I h=>Zbl (C:=C) (D:=D) hr.hd (wpAny_Call_Name_kw (YJ I hg hm (PySem.W.callWith_K (h₀:=X.base) I.ok.mod.kin c.kp (thn (ha cpos pins s σ H _ I h) fun us d⟨vs,H1,I1,r,y,ev,q⟩=>⟨I1.kIn,?_⟩) he rfl) hdb))
 subst ev
 have kin:=I1.kIn
 have e1:((d.heap.push (Y2 us)).push (Zbx C d.heap.objs.size)).get? (d.heap.objs.size+1)=some (Zbx C d.heap.objs.size):=by
  have:=Heap.get?_push_size (d.heap.push (Y2 us)) (o:=Zbx C d.heap.objs.size) rfl
  rwa [Heap.size_push]at this
 have I2:=(I1.kept (h':=d.heap.push (Y2 us)) (t':=d.toks) fun b u q=>Heap.get?_push_of_some _ q).laid (a:=d.heap.objs.size+1) (o:=XV C none (Zdr d.heap.objs.size) (d.heap.objs.size+1)) (h':=(d.heap.push (Y2 us)).push (Zbx C d.heap.objs.size)) (t':=d.toks)
  (fun b u q=>Heap.get?_push_of_some _ q) (Nat.le_of_eq (Heap.size_push _ _)) (XV.ok e1)
 have r2:Vals [V.ref (d.heap.objs.size+1),y] (Value.ref (d.heap.objs.size+1)::us):= .cons rfl r
 have hsp:ZaN C f [V.ref (d.heap.objs.size+1),y] (upd H1 (d.heap.objs.size+1) (XV C none (Zdr d.heap.objs.size) (d.heap.objs.size+1))) (fun v H'=>v= .non/\∃g,H1 g=none/\g≠d.heap.objs.size+1/\
   H'=upd (upd (upd H1 (d.heap.objs.size+1) (XV C none (Zdr d.heap.objs.size) (d.heap.objs.size+1))) g (.xd [(f,y)])) (d.heap.objs.size+1) (XV C (some g) (Zdr d.heap.objs.size) (d.heap.objs.size+1))) E0:=
  ⟨_,_,y,rfl,Zd,fun g h1 h2=>⟨rfl,g,by rwa [Zf h2]at h1,h2,rfl⟩⟩
 have hl:((Value.ref (d.heap.objs.size+1)::us)++[]).length=ps.length:=by
  rw[List.append_nil,<-r2.length];exact F.len _ _ _ _ hsp
 have bd:=hb {d with heap:=(d.heap.push (Y2 us)).push (Zbx C d.heap.objs.size)} (Value.ref (d.heap.objs.size+1)::us) I2.kIn hl
 rw[List.append_nil]at bd
 refine Zb5 (D:=D) (Jw kin c.cls) (looks_findIn kin hi) (fun self=>bind_fn kin self (beq_iff_eq.mp hfn)) (wpAny_call (codeAny_mono (F.run _ X.stack _ _ ⟨Value.ref (d.heap.objs.size+1)::us,[]⟩ _ _ _ E0 (hr.make C us [])
  (I2.env0.make C us []) bd r2 hsp) fun rr s' hq=>?_)) (by rw[List.nil_append,(show us.length=1 from r.length.symm),sizeLine_eq];omega)
 cases rr with
 |error e=>exact False.elim hq
 |ok fl=>
  cases fl with
  |ret u=>
   obtain⟨v,H',I3,rv,ev,g,g1,g2,g3⟩:=I2.after hq
   subst ev g3
   obtain rfl:u=Value.none:=rv
   have he:=XV.get (e:=d.heap.objs.size+1) I3.hok Zd
   refine⟨rfl,d.heap.objs.size+1,d.heap.objs.size,some g,rfl,Jw I3.kIn c.cls,he,hxe _ _ (JQ hst hf hex (ZfQ (e:=d.heap.objs.size+1) I3 Zd) (Heap.get?_none_of_le (Nat.le_succ_of_le I1.sz)) he Zaj ?_)⟩
   have e4:Zc1 (upd (upd (upd H1 (d.heap.objs.size+1) (XV C none (Zdr d.heap.objs.size) (d.heap.objs.size+1))) g (.xd [(f,y)])) (d.heap.objs.size+1) (XV C (some g) (Zdr d.heap.objs.size) (d.heap.objs.size+1))) (d.heap.objs.size+1)
     =upd H1 g (.xd [(f,y)]):=by
    funext b
    by_cases z:b=d.heap.objs.size+1
    ·rw[z,Zaj,Zf (Ne.symm g2),(I1.hok.fresh (Nat.le_succ _))]
    ·rw[YY z,Zf z]
     by_cases z2:b=g
     ·rw[z2,Zd,Zd]
     ·rw[Zf z2,Zf z2,Zf z]
   rw[e4]
   exact q g g1
  |next=>exact False.elim hq
  |brk=>exact False.elim hq
  |cont=>exact False.elim hq
end
end RX
namespace L2
open PySem PySem.Spec PyProof.Rows
structure Mk0(K:PySem.W.Frag)(C:Addr):Prop where
 makes:PySem.W.makesIn K C=true
 init:PySem.W.findIn K (.ref C) "__init__"=some (some (.builtin "object.__init__"))
 kp:PySem.W.keepIn K (.ref C)=true
structure OwnC(K:PySem.W.Frag)(C:Addr):Prop where
 cl:Cls K C
 ha:PySem.W.findIn K (.ref C) "__class__"=some (some (.builtin "object.__class__"))
 hn:PySem.W.specialIn K (.builtin "object.__class__") "__get__"=some (some (.builtin "getset_descriptor.__get__"))
 htk:PySem.W.takesIn K (.builtin "object.__class__")=some true
 hm:PySem.W.mroIn K C (.type "object")=some true
theorem OwnC.ty{K:PySem.W.Frag}{H:Hp}{a C dx:Addr}{fs:List (Str×V)}(o:OwnC K C)(e:H a=some (.ins C dx fs)):Zag K H (.ref a) (.ref C):= .ins e o.cl o.ha o.hn o.htk o.hm
section
variable{X:Cx}
def Zlq(C:Addr):TE:=fun _ H Q=>∀x dx,H x=none->H dx=none->dx≠x->Q (.ref x) (upd (upd H dx (.own x)) x (.ins C dx []))
theorem Zan{x}{C}{p pos}(M:Mk0 X.K C)(hg:Gl X x)(hm:X.mg x=some (.ref C))(hdb:(x==("__debug__":Str))=false:=by decide):PE X (.Call (.Name x p) [] [] pos) (Zlq C):=by
 refine fun _ s σ H Q I h=>wpAny_Call_Name_kw (YJ I hg hm (PySem.W.callWith_K0 I.kIn M.kp (wpAny_call (Ze9 I.kIn M.makes M.init (fun f=>PySem.W.Looks.of_pure (PySem.W.oi_bind f)) ?_))) hdb)
 have g:((s.heap.push PySem.W.emptyDict).push (PySem.W.instObj C s.heap.objs.size)).get? (s.heap.objs.size+1)=some (PySem.W.instObj C s.heap.objs.size):=by
  have:=Heap.get?_push_size (s.heap.push PySem.W.emptyDict) (o:=PySem.W.instObj C s.heap.objs.size) rfl
  simp_all
 refine codeAny_call_builtin PySem.W.oi_plain PySem.W.entry_oi (@PySem.W.check_slot (model X.prog X.w) _ _ _ "object.__init__" "object" "__init__" (.ref (s.heap.objs.size+1)) [] [] _ PySem.W.oi_kind PySem.W.oi_split (show PySem.W.Looks (model X.prog X.w) ((s.heap.push PySem.W.emptyDict).push (PySem.W.instObj C s.heap.objs.size)) (isInstance (.ref (s.heap.objs.size+1)) (.type "object")) _ from(show PySem.W.Looks (model X.prog X.w) ((s.heap.push PySem.W.emptyDict).push (PySem.W.instObj C s.heap.objs.size)) (typeOf (.ref (s.heap.objs.size+1))) (.ref C)from(PySem.W.Looks.ld g).andThen .now).andThen ((PySem.W.makes_of (M:=model X.prog X.w) I.kIn M.makes).top.keeps fun b o e=>Heap.get?_push_of_some _ (Heap.get?_push_of_some _ e))) (PySem.W.oi_args (.ref (s.heap.objs.size+1))) ?_)
 exact wpAny_pure (And.intro rfl ⟨.ref (s.heap.objs.size+1),_,(Inv.made (C:=C) I),rfl,(h (s.heap.objs.size+1) s.heap.objs.size (I.hok.fresh (Nat.le_succ _)) (I.hok.fresh (Nat.le_refl _)) (Nat.ne_of_lt (Nat.lt_succ_self _)))⟩)
end
end L2
namespace RX
open PySem PySem.Spec PyProof.Rows L2 PySem.W
open Builtin Builtin.ObjectAttr
structure ZdH(K:Frag)(C:Addr):Prop where
 ga:findIn K (.ref C) "__getattribute__"=some (some (.builtin "BaseException.__getattribute__"))
 gh:findIn K (.ref C) "__getattr__"=some none
 hd:hasDictIn K C=true
 be:mroIn K C (.type "BaseException")=some true
 ob:mroIn K C (.type "object")=some true
 cl:findIn K (.ref C) "__class__"=some (some (.builtin "object.__class__"))
 cg:specialIn K (.builtin "object.__class__") "__get__"=some (some (.builtin "getset_descriptor.__get__"))
 ct:takesIn K (.builtin "object.__class__")=some true
theorem Zgp:builtinKind "BaseException.__getattribute__"=some .slot:=by decide+kernel
theorem ZeR:splitId "BaseException.__getattribute__"=some ("BaseException","__getattribute__"):=by decide+kernel
section
variable{prog:Program}{w:World}{A:Around}{E:Value->Shared->Prop}{s:Shared}{K:Frag}{x C:Addr}{ox:Obj}{od:Option Obj}{name:Str}{tk:Tok}{fill expr:Bool}{Q:Value->Shared->Prop}
theorem Zea(X:K.In s.heap)(I:InstAt s.heap x ox C od)(g:ZdH K C)
  (h:wpAny (model prog w) A.in1 (Builtin.«object.__getattribute__» ⟨[.ref x,.str name tk],[]⟩) (fun fin s'=>match fin with| .done (.ret v)=>wpAny (model prog w) A (handedOut v) Q E s'|_=>False)
   (fun _ _=>False) s):wpAny (model prog w) A (getAttrBy (.ref x) (.str name tk) fill expr) Q E s:=by
 obtain⟨c,f,d,t,os⟩:=s
 have L0:=I.type (M:=model prog w)
 refine wpAny_holding (wpAny_bind (L0.here (s:=⟨c,f,d,t,os⟩) (wpAny_bind ((looks_findIn (M:=model prog w) X g.ga).here (s:=⟨c,f,d,t,os⟩) ?_))))
 dsimp only
 rw[(show(onTheHeap (Value.ref C)&&Value.builtin "BaseException.__getattribute__"==Value.builtin "object.__getattribute__")=false by rw[(show(Value.builtin "BaseException.__getattribute__"==Value.builtin "object.__getattribute__")=false by decide+kernel)];rfl)]
 unfold getAttrByItsOwn hookBefore
 refine wpAny_bind ((looks_findIn (M:=model prog w) X g.gh).here (s:=⟨c,f,d,t,os⟩) (wpAny_bind (wpAny_attempt (wpAny_holding ?_))))
 unfold callGetattribute
 rw[(show(expr&&onTheHeap (Value.builtin "BaseException.__getattribute__"))=false by cases expr<;>rfl)]
 refine wpAny_bind (wpAny_pure (wpAny_call (codeAny_call_builtin PySem.F.excAttr_ValueError.ga.plain PySem.F.entry_bexc_ga (@check_slot (model prog w) _ _ ⟨c,f,d,t,os⟩ "BaseException.__getattribute__" "BaseException" "__getattribute__" (.ref x) [.str name tk] [] _ Zgp ZeR (show Looks (model prog w) c (isInstance (.ref x) (.type "BaseException")) _ from L0.andThen (looks_mroIn X g.be)) (PySem.F.args_bexc_ga _ _) (wpAny_mono h (fun fin s' z=>?_) fun _ _ z=>False.elim z)))))
 grind
theorem ZkH{o}{v}(X:K.In s.heap)(I:InstAt s.heap x ox C (some o))(g:ZdH K C)(ha:findIn K (.ref C) name=some none)(hl:lookIn name o=some (some v))(hh:handedIn v=true)(h:Q v {s with toks:=s.toks+1}):
  wpAny (model prog w) A (getAttr (.ref x) name expr) Q E s:=by
 refine wpAny_bind (wpAny_mkText ?_)
 obtain⟨c,b,d,t,os⟩:=s
 exact Zea X I g (wpAny_bind (wpAny_pure (wpAny_bind (wpAny_pure (wpAny_bind ((I.type (M:=model prog w)).here (s:=⟨c,b,d,t+1,os⟩) (wpAny_bind ((looks_find (M:=model prog w) X I (findObj_own g.hd ha rfl hl)).here (s:=⟨c,b,d,t+1,os⟩) (wpAny_pure (handed_on hh h))))))))))
theorem Zb2{od}{a g}(hc:(clsIn K C).isSome=true)(ha:findIn K (.ref C) name=some (some a))(hg:specialIn K a "__get__"=some (some g))(ht:takesIn K a=some true):findObj K C od name=some (.bind g a):=by
 obtain⟨_,_⟩:=Option.isSome_iff_exists.mp hc
 unfold findObj
 grind
theorem Zh0{Q}(X:K.In s.heap)(I:InstAt s.heap x ox C od)(g:ZdH K C)(h:Q (some (.ref C)) {s with toks:=s.toks+1}):wpAny (model prog w) A (getAttr? (.ref x) "__class__") Q E s:=by
 refine wpAny_bind (wpAny_mkText (wpAny_bind (wpAny_attempt ?_)))
 obtain⟨b,a,d,t,os⟩:=s
 exact Zea X I g (wpAny_bind (wpAny_pure (wpAny_bind (wpAny_pure (wpAny_bind (I.type.here (s:=⟨b,a,d,t+1,os⟩) (wpAny_bind ((looks_find X I (show findObj K C od _=some _ from Zb2 (by obtain⟨_,c,_⟩:=any_some g.hd;rw[c];rfl) g.cl g.cg g.ct)).here (s:=⟨b,a,d,t+1,os⟩) (wpAny_bind (wpAny_holding (wpAny_call (class_get (s:=⟨b,a,d,t+1,os⟩) X I g.ob (wpAny_pure (handed_on rfl (wpAny_pure h)))))))))))))))
theorem ZiU(g:ZdH K C):KitX K (.ref x) (.ref C) (fun h=>∃ox od,InstAt h x ox C od)where
 ty:=fun _ _ _⟨_,_,I⟩=>I.type
 it:=fun _ _ X _=>by
  obtain⟨d,a,_⟩:=any_some g.hd
  unfold clsIn at a
  split at a
  ·rename_i l j c f i
   exact fun _ _ _ _ k q=>wpAny_bind (wpAny_loadPart (k _ _ (X _ _ i)) (wpAny_pure q))
  ·cases a
 ne:=fun h _ _ _ n _ X b=>by
  obtain⟨d,a,_⟩:=any_some g.hd
  refine Bool.eq_false_iff.mpr fun q=>?_
  have e:=Value.ref.inj (beq_iff_eq.mp q)
  subst e
  unfold clsIn at a
  split at a
  ·rename_i l j c f i
   cases((X _ _ i).symm.trans b)
  ·cases a
 ca:=fun X⟨_,_,I⟩ k=>Zh0 X I g k
end
def XO(C:Addr)(od:Option Addr)(e:Addr):HO:= .ext fun h=>∃o fv,h.get? e=some o/\o.cls= .ref C/\o.dict=od/\o.data= .fields fv
theorem XO.ok{P}{w}{H}{h}{C e}{od}{o}{fv:Array _}(e1:h.get? e=some o)(e2:o.cls= .ref C)(e3:o.dict=od)(e4:o.data= .fields fv):ObjOk P w H h e (XO C od e):=
 ⟨⟨o,fv,e1,e2,e3,e4⟩,⟨_,e1⟩,fun _ _⟨o,fv,p,r⟩ k=>⟨o,fv,k _ p,r⟩⟩
section
variable{P:Program}{w:World}{H:Hp}{h:Heap}{C e:Addr}{od:Option Addr}
theorem XO.get(x:HOk P w H h)(q:H e=some (XO C od e)):∃o fv,h.get? e=some o/\o.cls= .ref C/\o.dict=od/\o.data= .fields fv:=(x e _ q).1
theorem YL{o}{fv}(h:o.data= .fields fv):notCls o=true:=by unfold notCls;rw[h]
theorem XO.inst(x:HOk P w H h)(q:H e=some (XO C od e))(hd:∀dx,od=some dx->∃u,H dx=some u):∃ox oo,InstAt h e ox C oo:=by
 obtain⟨o,_,f,c,d,g⟩:=XO.get x q
 cases od with
 |none=>exact⟨o,none,f,c,YL g,by rw[d];trivial⟩
 |some dx=>
  obtain⟨u,i⟩:=hd dx rfl
  obtain⟨j,b⟩:=ZfC (x dx u i)
  exact⟨o,some j,f,c,YL g,by rw[d];exact b⟩
end
section
variable{X:Cx}{f:Str}{e:Expr}{ta:TE}{pos:Pos}
def ZhC(K:Frag)(ta:TE)(f:Str):TE:=fun σ H Q=>ta σ H fun x H1=>∃a C dx fs v,x= .ref a/\H1 a=some (XO C (some dx) a)/\H1 dx=some (.xd fs)/\ZdH K C/\findIn K (.ref C) f=some none/\fs.lookup f=some v/\(∀n,v≠.ty n)/\Q v H1
theorem ZgQ(he:PE X e ta)(hb:attributeBase e f X.env (eval e X.env)=eval e X.env):PE X (.Attribute e f pos) (ZhC X.K ta f):=by
 refine fun b s σ H Q I h=>Zh3 hb (thn (he b s σ H _ I h) fun u _ xq1=>?_)
 obtain⟨x,F,c,t,a,C,z,_,v,A,y,w,g,n,l,_,q⟩:=xq1
 subst A
 obtain rfl:u=Value.ref a:=t
 obtain⟨o,_,k,m,p,B⟩:=XO.get c.hok y
 obtain⟨j,d,r⟩:=(c.hok z _ w)
 obtain⟨_,G,i⟩:=RelO.some_of (v:=v) (o:=j f) (by grind)
 obtain⟨_,E,D⟩:=ZbJ d
 exact ZkH c.kIn ⟨k,m,YL B,by rw[p];exact E⟩ g n (by rw[D,G]) (ZeF i) ⟨v,F,c.tok _,i,q⟩
def clV:V->Option Value
 | .ref a=>some (.ref a)
 | .ty n=>some (.type n)
 |_=>none
theorem Zh1{y}{c u}(e:clV y=some c)(r:L2.RelV y u):u=c:=by
 cases y<;>cases e<;>exact r
inductive ZlH(K:Frag)(xs:List V)(H:Hp)(Q:VK):Prop
 |mk (a C od y c b:_) (_:xs=[.ref a,y]) (_:H a=some (XO C od a)) (_:(∀dx,od=some dx->∃u,H dx=some u)) (_:ZdH K C) (_:clV y=some c) (_:kitOne K (.ref C) c=some b) (_:Q (.bl b) H)
theorem ZC:CallR X (.builtin "isinstance") (ZlH X.K):=by
 intro _ s σ H _ _ Q I r h
 obtain⟨a,C,_,y,c,b,rfl,k,j,g,i,e,q⟩:=h
 obtain⟨u,_,rfl,f,d⟩:=vals2 r
 cases f
 cases Zh1 i d
 exact kia_one (ZiU g) I.kIn (XO.inst I.hok k j) e (fun z=>nomatch z) fun l=>⟨.bl b,H,I.tok l,rfl,q⟩
end
end RX
namespace RX
open PySem PySem.Spec PyProof.Rows L2 PySem.W
section
variable{X:Cx}{pins:List (Addr×Obj)}{σ:L2.St}{H0 H':Hp}{s0 s':Shared}{e C:Addr}{cls fl fl':Value}{od:Option Addr}{B h':Heap}
structure Ly(X:Cx)(H0:Hp)(s0:Shared)(e:Addr)(cls:Value)(od:Option Addr)(H':Hp)(B:Heap)(fl:Value)(s':Shared):Prop where
 os:s'.os=s0.os
 bare:AllBare s'.gens
 un:Un (frs X.stack) [] H0 H' s0.heap s'.heap
 hok:HOk X.prog X.w H' s'.heap
 fly:Fl B X.stack e cls od fl s'.heap
 k1:∀b o,s0.heap.get? b=some o->b ∉ frs X.stack->∃o',B.get? b=some o'
 k2:∀b u,H' b=some u->∃o,B.get? b=some o
theorem Ly.to(x:Ly X H0 s0 e cls od H' B fl s')(I:L2.Inv X pins σ H0 s0)(f:Fl B X.stack e cls od fl' h')(u:s'.heap.UpToSlots h'):Ly X H0 s0 e cls od H' B fl' {s' with heap:=h'}:=by
 refine⟨x.os,x.bare,Zc2 x.un x.fly.stays f.stays x.k1 I.stkFree (fun b a o _=>?_) u,Zau x.hok x.k2 x.fly.stays f.stays,f,x.k1,x.k2⟩
 obtain⟨_,_,_,_⟩:=x.fly.frames.mem a
 grind
theorem Ly.free(x:Ly X H0 s0 e cls od H' B fl s'):H' e=none:=by
 cases q:H' e with
 |none=>rfl
 |_ u=>
  obtain⟨o,a⟩:=x.k2 e u q
  rw[x.fly.new]at a;cases a
theorem Ly.fresh(x:Ly X H0 s0 e cls od H' B fl s'):s0.heap.get? e=none:=by
 cases q:s0.heap.get? e with
 |none=>rfl
 |_ o=>
  by_cases a:e∈frs X.stack
  ·obtain⟨_,b,_,_⟩:=x.fly.frames.mem a
   obtain⟨_,_,_,_,_,_,_,_,_⟩:=x.fly.trace
   grind
  ·obtain⟨b,h⟩:=x.k1 e o q a
   rw[x.fly.new]at h;cases h
theorem Ly.inv(x:Ly X H0 s0 e cls od H' B fl s')(I:L2.Inv X pins σ H0 s0):L2.Inv X pins σ H' s':=
 I.call' x.os x.un x.hok x.bare fun b z=>absurd z (by simp)
theorem Ly.track(x:Ly X H0 s0 e (.ref C) od H' B fl s')(I:L2.Inv X pins σ H0 s0):L2.Inv X pins σ (upd H' e (XO C od e)) s':=by
 have _:=x.free
 have a:∀b v,H' b=some v->b≠e:=fun b v q z=>by grind
 refine I.call' x.os ⟨x.un.keep,x.un.slot,fun b o q n h=>?_,x.un.there,fun b d q=>?_,fun b o d q=>?_,fun b f q=>?_⟩ (fun b u q=>?_) x.bare fun b z=>absurd z (by simp)
 ·rw[Zf (fun z=>by rw[z,x.fresh]at q;cases q)]
  exact x.un.free b o q n h
 ·have r:=x.un.tups b d q
  rw[Zf (a b _ r)];exact r
 ·have r:=x.un.frzs b o d q
  rw[Zf (a b _ r)];exact r
 ·obtain⟨m,r⟩:=x.un.tbls b f q
  exact⟨m,by rw[Zf (a b _ r)];exact r⟩
 ·by_cases z:b=e
  ·subst z
   rw[Zd]at q;cases q
   obtain⟨_,_,_,_,_,g,⟨i,k⟩,j,_⟩:=x.fly.trace
   exact XO.ok g i k j
  ·rw[Zf z]at q
   refine(x.hok b u q).stay (fun _ _ _ r=>r) (fun c r=>?_) fun c d r=>?_
   ·rw[Zf (a c _ r)];exact r
   ·rw[Zf (a c _ r)];exact r
end
abbrev mrk(X:Cx)(e:Addr):Cx:={X with A:=X.A.mark (some (.ref e)),calm:=false,xe:=fun _ _=>False}
section
variable{X:Cx}{pins:List (Addr×Obj)}{σ:L2.St}{H:Hp}{s:Shared}{e:Addr}
theorem ZdW(I:L2.Inv X pins σ H s)(e:Addr):L2.Inv (mrk X e) pins σ H s:=
 have a:=I.ok
 ⟨⟨a.mod,a.kind,a.glob,a.blt,a.above,a.inj,a.has,a.cab,(fun z=>Bool.noConfusion z),a.frames,a.stk,a.exf,a.bs,a.bsz,a.noex,a.exfs,a.funs,a.frf⟩,I.os,I.bare,I.base,I.loc,I.cell,I.free,I.freeC,I.pin,I.hok,I.len⟩
theorem J6(ok:X.Ok)(I:L2.Inv (mrk X e) pins σ H s):L2.Inv X pins σ H s:=
 ⟨ok,I.os,I.bare,I.base,I.loc,I.cell,I.free,I.freeC,I.pin,I.hok,I.len⟩
theorem ZiZ{pn:List _}{E:Value->Shared->Prop}(I:L2.Inv X pins σ H s)(h:∀p∈pn,p∈X.pn++pins):L2.Inv {X with pn:=pn,xe:=E} [] σ H s:=
 have a:=I.ok
 ⟨⟨a.mod,a.kind,a.glob,a.blt,a.above,a.inj,a.has,a.cab,a.hd,a.frames,a.stk,a.exf,a.bs,a.bsz,a.noex,a.exfs,a.funs,a.frf⟩,I.os,I.bare,I.base,I.loc,I.cell,I.free,I.freeC,fun p b=>I.pin p (h p (by simpa using b)),I.hok,I.len⟩
theorem ZcP{pn pins':List _}{E:Value->Shared->Prop}(ok:X.Ok)(I:L2.Inv {X with pn:=pn,xe:=E} pins' σ H s)(h:∀p∈X.pn++pins,p∈pn):L2.Inv X pins σ H s:=
 ⟨ok,I.os,I.bare,I.base,I.loc,I.cell,I.free,I.freeC,fun p a=>I.pin p (List.mem_append_left _ (h p a)),I.hok,I.len⟩
theorem ZaB{M}{A}{E:Value->Shared->Prop}{i}{n}{pos}{Q:Unit->Shared->Prop}(I:L2.Inv X pins σ H s)(hN:X.N.Nodup)(hi:X.N[i]?=some n)(hk:X.env.scope.names.lookup n=some .local)
  (h:∀s',L2.Inv X pins (σ.set i none) H s'->Q () s'):wpAny M A (do bindName X.env n .none;unbindBehindTheSuite X.env n pos) Q E s:=by
 obtain⟨m,B,hl⟩:=id I.loc
 have hiσ:i<σ.length:=by rw[I.len];exact(List.getElem?_eq_some_iff.mp hi).1
 obtain⟨oL,_,_,hoL,_⟩:=id B
 refine wpAny_nameGoes_keeps hk B (show(X.env.scope.kind== .class||(X.env.scope.kind== .module&&X.env.locals !=X.env.globals))=_ by rw[I.ok.kind];rfl) fun h' v x g=>?_
 have f:=fun b ob e=>by
  refine(I.hok b ob e).stay (fun c w' r q=>(g.2 c ?_).trans q) (fun _ q=>q) fun _ _ q=>q
  rintro rfl
  rcases r with r|r
  ·rw[<-r,I.free]at e;cases e
  ·rw[I.free]at r;cases r
 have l:∀b o,X.s₀.heap.get? b=some o->b≠X.env.locals:=fun b o e=>Nat.ne_of_lt (Nat.lt_of_lt_of_le (Heap.lt_size e) I.ok.above)
 refine h _ ⟨I.ok,I.os,I.bare,⟨fun b o e n w u=>?_,fun b o e n w u=>?_,I.base.free,fun b o e u=>?_,I.base.tups,I.base.frzs,I.base.tbls⟩,⟨_,x,fun j y v' t D e3=>?_⟩,fun y c e=>?_,I.free,I.freeC,fun p hp=>?_,f,by simpa using I.len⟩
 ·exact(g.2 b (l b o e)).trans (I.base.keep b o e n w u)
 ·obtain⟨sl,t⟩:=I.base.slot b o e n w u
  exact⟨sl,(g.2 b (l b o e)).trans t⟩
 ·obtain⟨o',t⟩:=I.base.there b o e u
  exact⟨o',(g.2 b (l b o e)).trans t⟩
 ·by_cases F:j=i
  ·simp_all
  ·rw[List.getElem?_set_ne (Ne.symm F)]at D
   obtain⟨u',r',q⟩:=hl j y v' t D e3
   refine⟨u',r',?_⟩
   rcases q with⟨k,e⟩|⟨k,c,e,z⟩
   ·refine .inl ⟨k,?_⟩
    have:y≠n:=fun e=>F (Zba hN t (e▸hi))
    simp[this,e]
   ·exact .inr ⟨k,c,e,z.sameBut g (I.cne y c e)⟩
 ·obtain⟨w',z⟩:=I.cell y c e
  exact⟨w',z.sameBut g (I.cne y c e)⟩
 ·obtain⟨e,n,C,nf,d⟩:=I.pin p hp
  exact⟨(g.2 p.1 C).trans e,n,C,nf,d⟩
end
theorem Ze8{M}{A}{E}{s}{K}{e C C'}{oe}{b}{Q}(X:K.In s.heap)(he:s.heap.get? e=some oe)(hc:oe.cls= .ref C)
  (k:kitCls K (.ref C) (.ref C')=some b)(hb:mroIn K C' (.type "BaseException")=some true)(q:Q b s):wpAny M A (excMatches (.ref e) (.ref C')) Q E s:=by
 obtain⟨f,i,c⟩:=kit_cls X k
 obtain⟨h,g,d,t,os⟩:=s
 have j:Looks M h (isExcClass (.ref C')) true:=by
  unfold isExcClass
  refine i.andThen ?_
  rw[if_pos rfl]
  exact looks_mroIn X hb
 refine wpAny_bind ((show Looks M h _ _ from f.andThen (Looks.of_pure tc_notTuple)).here (wpAny_bind (wpAny_pure (wpAny_bind ?_))))
 rw[List.forIn_cons]
 refine wpAny_bind (wpAny_bind (j.here ?_))
 refine wpAny_pure (wpAny_pure (wpAny_bind ((show Looks M h _ (.ref C)from hc▸(Looks.ld he).andThen .now).here (wpAny_bind ?_))))
 refine wpAny_bind (wpAny_bind (c.here ?_))
 cases b with
 |true=>exact wpAny_pure (wpAny_pure (wpAny_pure q))
 |_=>
  exact wpAny_pure (wpAny_pure (wpAny_pure q))
abbrev TH:=L2.St->Value->Option Addr->Hp->Ends->Prop
def PH(X:Cx)(hs:List ExceptHandler)(th:TH):Prop:=∀(pins:List (Addr×Obj))(σ:L2.St)(H0:Hp)(s0:Shared)(e:Addr)(cls:Value)(od:Option Addr)(H':Hp)(B:Heap)(s':Shared)(D:Ends),
 L2.Inv X pins σ H0 s0->Ly X H0 s0 e cls od H' B .none s'->th σ cls od H' D->wpAny (model X.prog X.w) X.A (handleBy (.ref e) X.env hs) (SP X pins D) X.xe s'
abbrev ZhY(X:Cx)(pn:List (Addr×Obj))(E:Value->Shared->Prop):Cx:={X with pn:=pn,xe:=E}
def ZhX(X:Cx)(Ex:L2.St->XK):Prop:=∀(pins:List (Addr×Obj))(σ:L2.St)(H:Hp)(s:Shared)(e:Value)(s':Shared),L2.Inv X pins σ H s->CXe X.prog X.w X.stack H s (Ex σ) e s'->X.xe e s'
def ZlC(tb:(L2.St->XK)->TS)(th:TH):TS:=fun D σ H=>tb (fun σ' cls od H'=>th σ' cls od H' D) D σ H
section
variable{X:Cx}{body suite:List Stmt}{h₀:ExceptHandler}{hs rest:List ExceptHandler}{tb:(L2.St->XK)->TS}{th:TH}{pos hpos cp:Pos}
theorem Ziy(hst:X.stack=X.env::X.outer)(hf:X.env.frame=some X.env.locals)(hb:∀pn E Ex,ZhX (ZhY X pn E) Ex->PSs (ZhY X pn E) body (tb Ex)) (hh:PH X (h₀::hs) th):PS X (.Try body (h₀::hs) [] [] pos) (ZlC tb th):=by
 intro pins s σ H D I h
 refine wpAny_Try_except ?_
 refine wpAny_mono (hb (X.pn++pins) (fun ev s₁=>wpAny (model X.prog X.w) X.A (noteFrame ev X.env) (fun _ s₂=>wpAny (model X.prog X.w) X.A (setFlight ev none) (fun _ s₃=>wpAny (model X.prog X.w) X.A (handleBy ev X.env (h₀::hs)) (SP X pins D) X.xe s₃) X.xe s₂) X.xe s₁)
  (fun σ' cls od H'=>th σ' cls od H' D) (fun pins' σ' H1 s1 ev s' I1 x=>?_) [] s σ H D (ZiZ I fun p hp=>hp) h) (fun f s1 q=>?_) fun _ _ q=>q
 ·have I2:L2.Inv X pins σ' H1 s1:=ZcP I.ok I1 fun p hp=>hp
  obtain⟨e,cls,od,H',B,rfl,os,bare,un,hok,fl,k1,k2,q⟩:=x
  have y:Ly X H1 s1 e cls od H' B .none s':=⟨os,bare,un,hok,fl,k1,k2⟩
  have fl':Fl B (X.env::X.outer) e cls od .none s'.heap:=by rw[<-hst];exact fl
  show wpAny (model X.prog X.w) X.A (noteFrame (.ref e) X.env) _ _ s'
  refine ZdU (by rw[<-hst];exact I.ok.frames) hf fl' fun h1 f1 u1=>?_
  rw[<-hst]at f1
  have y1:=y.to I2 f1 u1
  refine Jg (s:={s' with heap:=h1}) f1 fun h2 f2 u2=>?_
  exact hh pins σ' H1 s1 e cls od H' B _ D I2 (y1.to I2 f2 u2) q
 ·have up:∀{σ':L2.St}{H':Hp}{EE:Value->Shared->Prop},L2.Inv (ZhY X (X.pn++pins) EE) [] σ' H' s1->L2.Inv X pins σ' H' s1:=fun J=>ZcP I.ok J fun p hp=>hp
  cases f with
  |next=>obtain⟨σ',H',J,r⟩:=q;exact wpAny_pure ⟨σ',H',up J,r⟩
  |brk=>obtain⟨σ',H',J,r⟩:=q;exact⟨σ',H',up J,r⟩
  |cont=>obtain⟨σ',H',J,r⟩:=q;exact⟨σ',H',up J,r⟩
  |ret u=>obtain⟨v,σ',H',J,rv,r⟩:=q;exact⟨v,σ',H',up J,rv,r⟩
theorem Zi4:PH X [] (fun _ _ _ _ _=>False):=fun _ _ _ _ _ _ _ _ _ _ _ _ _ h=>h.elim
def unE(i:Nat)(D:Ends):Ends:={nx:=fun σ H=>D.nx (σ.set i none) H,rt:=D.rt,bk:=fun σ H=>D.bk (σ.set i none) H,ct:=fun σ H=>D.ct (σ.set i none) H}
def Zlk(K:Frag)(C':Addr)(i:Nat)(ts:TS)(th:TH):TH:=fun σ cls od H D=>∃C b,cls= .ref C/\kitCls K (.ref C) (.ref C')=some b/\
 if b=true then∀e,H e=none->ts (unE i D) (σ.set i (some (.ref e))) (upd H e (XO C od e))else th σ cls od H D
theorem Zfw{c n:Str}{C':Addr}{i:Nat}{b₀:Stmt}{ts:TS}(hg:Gl X c)(hm:X.mg c=some (.ref C'))(hbe:mroIn X.K C' (.type "BaseException")=some true)(hN:X.N.Nodup)(hi:X.N[i]?=some n)
  (hk:X.env.scope.names.lookup n=some .local)(hs:∀e,PSs (mrk X e) (b₀::suite) ts) (hr:PH X rest th) (hdb:(c==("__debug__":Str))=false:=by decide):
  PH X (.ExceptHandler (some (.Name c cp)) (some n) (b₀::suite) hpos::rest) (Zlk X.K C' i ts th):=by
 intro pins σ H0 s0 e cls od H' B s' D I y h
 obtain⟨C,b,rfl,hkit,h⟩:=h
 have J:=y.inv I
 have Jm:=ZdW J e
 obtain⟨oe,vs,_,_,_,he,⟨hc,_⟩,_⟩:=y.fly.trace
 refine wpAny_handleBy_cons (codeAny_handlers_test (YJ (X:=mrk X e) Jm hg hm ?_ hdb)) (by intro q;cases q)
 refine Ze8 J.kIn he hc hkit hbe ?_
 cases b with
 |false=>
  rw[if_neg (by decide)]at h
  exact hr pins σ H0 s0 e _ od H' B s' D I y h
 |true=>
  rw[if_pos rfl]at h
  refine codeAny_handlers_suite_as ?_
  refine Jg y.fly fun h2 f2 u2=>?_
  have y2:=y.to I f2 u2
  have J2:=ZdW (y2.track I) e
  refine YS (X:=mrk X e) J2 hN hi (.inl hk) (v:= .ref e) rfl (fun s3 J3=>?_) (.inr hk)
  refine wpAny_mono (hs e pins s3 _ _ (unE i D) J3 (h e y.free)) (fun f s4 q=>?_) fun _ _ z=>False.elim z
  have ok:=I.ok
  cases f with
  |next=>obtain⟨σ',H4,J4,r⟩:=q;exact ZaB (J6 ok J4) hN hi hk fun s5 J5=>⟨_,_,J5,r⟩
  |brk=>obtain⟨σ',H4,J4,r⟩:=q;exact ZaB (J6 ok J4) hN hi hk fun s5 J5=>⟨_,_,J5,r⟩
  |cont=>obtain⟨σ',H4,J4,r⟩:=q;exact ZaB (J6 ok J4) hN hi hk fun s5 J5=>⟨_,_,J5,r⟩
  |ret u=>obtain⟨v,σ',H4,J4,rv,r⟩:=q;exact ZaB (J6 ok J4) hN hi hk fun s5 J5=>⟨v,_,_,J5,rv,r⟩
end
def Zih(sp:Sp)(dvs:List V)(Ex:L2.St->XK)(t:TA):TE:=fun σ H Q=>t σ H fun vs H1=>sp (vs++dvs) H1 Q (Ex σ)
section
variable{X:Cx}{k:Nat}{f:Addr}{fd:FuncData}{ps:List Str}{sp:Sp}{dvs:List V}{ds:List Value}{Ex:L2.St->XK}{x:Str}{p pos:Pos}{e:Expr}{es:List Expr}{t:TA}
theorem ZaW(F:FnOk X.prog X.w X.K X.mg X.base (CXe X.prog X.w) k f fd ps sp)(hr:Room k X.A)(hg:Gl X x)(hm:X.mg x=some (.ref f))(hk:PySem.W.keepIn X.K (.ref f)=true)(hb:L2.Binds X.K fd ps ds)(hd:Vals dvs ds)(hx:ZhX X Ex)
  (ha:PA X (e::es) t)(hdb:(x==("__debug__":Str))=false:=by decide)(he:starEach (e::es) X.env=(false,eval e X.env)::starEach es X.env:=by rfl)(hpl:(backTo pos (starEach es X.env)).any (·.1)=false:=by rfl):
  PE X (.Call (.Name x p) (e::es) [] pos) (Zih sp dvs Ex t):=by
 intro pins s σ H Q I h
 refine wpAny_Call_Name_kw (YJ I hg hm ?_ hdb)
 refine PySem.W.callWith_K (h₀:=X.base) I.ok.mod.kin hk (thn (ha pos pins s σ H _ I h) fun us s1⟨vs,H1,I1,r,q⟩=>⟨I1.kIn,?_⟩) he hpl
 have r2:Vals (vs++dvs) (us++ds):=r.append hd
 have hl:(us++ds).length=ps.length:=by rw[<-r2.length];exact F.len _ _ _ _ q
 refine wpAny_call (codeAny_mono (F.run X.A X.stack s1 H1 ⟨us,[]⟩ (us++ds) (vs++dvs) Q (Ex σ) hr I1.env0 (hb s1 us I1.kIn hl) r2 q) fun r s' hq=>?_)
 cases r with
 |error e=>exact hx pins σ H1 s1 e s' I1 hq
 |ok fl=>
  cases fl with
  |ret u=>exact I1.after hq
  |next=>exact False.elim hq
  |brk=>exact False.elim hq
  |cont=>exact False.elim hq
end
structure RoomM(k:Nat)(A:Around):Prop where
 dp:A.depth+3*k+5<recursionLimit
 un:A.units+16*k+200<cLine
theorem RoomM.of{k}{A}(r:Room k A)(h:Option _):RoomM k (A.mark h):=⟨r.dp,r.un⟩
theorem RoomM.mono{j k}{A}(r:RoomM k A)(h:j<=k):RoomM j A:=⟨by have:=r.dp;omega,by have:=r.un;omega⟩
theorem RoomM.deeper{k}{A}(r:RoomM (k+1) A)(env:Env):RoomM k (A.deeper env):=
 ⟨by have:=r.dp;show A.depth+1+3*k+5<_;omega,by have:=r.un;show A.units+3+16*k+200<_;omega⟩
theorem RoomM.units{k:Nat}{A:Around}(r:RoomM k A):A.units+64<cLine:=by have:=r.un;omega
structure FnM(P:Program)(w:World)(K:Frag)(mg:Str->Option Value)(base:Heap)(k:Nat)(f:Addr)(fd:FuncData)(ps:List Str)(sp:Sp):Prop where
 len:∀vs H Q E,sp vs H Q E->vs.length=ps.length
 run:∀(A:Around)(outer:List Env)(s:Shared)(H:Hp)(args:Args)(us:List Value)(vs:List V)(Q:VK),RoomM k A->Env0 P w K mg base A outer s H->BindsTo s fd args (ps.zip us)->Vals vs us->sp vs H Q E0->
  codeAny (model P w) A (.call (.ref f) args) (CR CX0 outer P w H s Q E0) s
abbrev cxM(P:Program)(w:World)(K:Frag)(mg:Str->Option Value)(base:Heap)(N:List Str)(qual:Str)(scope:Scope)(f:Addr)(cd:Value)(A:Around)(outer:List Env)(s:Shared)(H:Hp):Cx:=
 {Yk CX0 P w K mg base N qual scope f cd A outer s H E0 with calm:=false,xe:=fun _ _=>False}
theorem Zhi{X:Cx}{pins:List _}{σ:L2.St}{H:Hp}{s:Shared}(I:L2.Inv X pins σ H s)(A':Around)(hA:A'.frames=some X.stack)(E:Value->Shared->Prop):L2.Inv {X with A:=A',calm:=false,xe:=E} pins σ H s:=
 have a:=I.ok
 ⟨⟨a.mod,a.kind,a.glob,a.blt,a.above,a.inj,a.has,a.cab,(fun z=>Bool.noConfusion z),hA,a.stk,a.exf,a.bs,a.bsz,a.noex,a.exfs,a.funs,a.frf⟩,I.os,I.bare,I.base,I.loc,I.cell,I.free,I.freeC,I.pin,I.hok,I.len⟩
theorem Zjc{P}{w}{K:Frag}{mg:Str->Option _}{base}{k}{f}{name qual}{params}{body:List _}{scope:Scope}{dV kV doc pm cdv ct oc:Value}{an od:Option _}
  {osl:Array (Option Value)}{N ps:List _}{sp:Sp}(lk:K.lookup f=some ⟨oc,od,.func (fnOf name qual params body scope dV kV doc pm an cdv ct),osl⟩)(hcd:codeIn K cdv qual=true)(S:Zr N ps scope)
  (len:∀vs H Q E,sp vs H Q E->vs.length=ps.length)
  (hbody:∀(A:Around)(outer:List _)(s:Shared)(H:Hp)(vs:List V)(Q:VK),RoomM k (A.deeper (envOfC qual scope s.heap.objs.size f cdv))->sp vs H Q E0->
   ∃t,PSs (cxM P w K mg base N qual scope f cdv A outer s H) body t/\t {nx:=fun _ H'=>Q .non H',rt:=Q} (start N vs) H):
  FnM P w K mg base (k+1) f (fnOf name qual params body scope dV kV doc pm an cdv ct) ps sp:=by
 refine⟨len,fun A outer s H args us vs Q hr a hb r h=>?_⟩
 have KX:=a.mod.kin.keeps fun b o e=>(a.bs b o e).1
 have c:∀y∈ps.zip us,scope.names.lookup y.1=some .local\/(scope.names.lookup y.1=some .cell/\((cellsFrom (s.heap.objs.size+1) scope.names []).lookup y.1).isSome=true):=fun⟨n,v⟩ hy=>by
  rcases S.par n (List.of_mem_zip hy).1 with q|q
  ·exact .inl q
  ·exact .inr ⟨q,cellsFrom_some _ _ _ (.inl q)⟩
 refine codeAny_call_function (by have:=hr.dp;omega) (KX _ _ lk) rfl S.co S.gen rfl (codeRec_of KX hcd) (hb _ _ _ _ (wpAny_newFunctionEnv_cells S.kind c fun env he p x=>?_))
 subst he
 refine⟨(a.mod.nolimit.keeps fun b o e=>(a.bs b o e).1).keeps x.toInCall.keep,codeAny_func ?_⟩
 obtain⟨t,ht,hq⟩:=hbody A outer s H vs Q (hr.deeper _) h
 refine wpAny_mono (ht [] p (start N vs) H _ (show L2.Inv (cxM P w K mg base N qual scope f cdv A outer s H) [] (start N vs) H p from Zhi (show L2.Inv (Yk CX0 P w K mg base N qual scope f cdv {A with handled:=none} outer s H E0) [] (start N vs) H p from ZbN S rfl (show Env0 P w K mg base {A with handled:=none} outer s H from⟨a.frames,a.mod,a.bs,a.bsz,a.funs,a.frf,a.hok,a.bare⟩) (len _ _ _ _ h) r x) (A.deeper (envOfC qual scope s.heap.objs.size f cdv)) (Around.frames_deeper a.frames) _) hq) (fun fl s' d=>?_) fun e s' d=>False.elim d
 have g:∀{j:L2.St}{H':Hp}{v:V}{u:Value},L2.Inv (cxM P w K mg base N qual scope f cdv A outer s H) [] j H' s'->L2.RelV v u->Q v H'->CE outer P w H s Q u s':=
  fun{j H' v u} J m q=>⟨v,H',J.os,J.bare,J.base,J.hok,m,q⟩
 cases fl with
 |ret u=>
  obtain⟨v,j,H',J,m,q⟩:=d
  exact g J m q
 |next=>
  obtain⟨j,H',J,q⟩:=d
  exact g (v:=V.non) (u:=Value.none) J rfl q
 |brk=>
  obtain⟨_,_,_,q⟩:=d
  exact False.elim q
 |cont=>
  obtain⟨_,_,_,q⟩:=d
  exact False.elim q
theorem Zhk{P}{w}{K}{mg:Str->Option _}{base}{x qual}{st}{f}{fd}{N ps:List _}{k}{sp:Sp}(F:L2.Fun K x qual st f fd)(S:Zr N ps (L2.Zh st))(len:∀vs H Q E,sp vs H Q E->vs.length=ps.length)
  (hbody:∀(cdv:Value)(A:Around)(outer:List _)(s:Shared)(H:Hp)(vs:List V)(Q:VK),RoomM k (A.deeper (envOfC qual (L2.Zh st) s.heap.objs.size f cdv))->sp vs H Q E0->
   ∃t,PSs (cxM P w K mg base N qual (L2.Zh st) f cdv A outer s H) (L2.ZK st) t/\t {nx:=fun _ H'=>Q .non H',rt:=Q} (start N vs) H):FnM P w K mg base (k+1) f fd ps sp:=by
 obtain⟨_,_,kV,_,_,_,cdv,_,_,rfl,c,a⟩:=F.ex
 exact Zjc c a S len fun A outer s H vs Q d b=>hbody _ A _ s H vs Q d b
theorem JZ{P}{w}{K}{mg:Str->Option _}{base}{x qual}{st}{f}{fd}{N ps:List _}{k}{sp:Sp}(F:L2.Fun K x qual st f fd)(S:Zr N ps (L2.Zh st))(len:∀vs H Q E,sp vs H Q E->vs.length=ps.length)
  (hbody:∀(cdv:Value)(A:Around)(outer:List _)(s:Shared)(H:Hp)(vs:List V)(Q:VK)(E:XK),Room k (A.deeper (envOfC qual (L2.Zh st) s.heap.objs.size f cdv))->sp vs H Q E->
   ∃t,PSs (Yk (CXe P w) P w K mg base N qual (L2.Zh st) f cdv A outer s H E) (L2.ZK st) t/\t {nx:=fun _ H'=>Q .non H',rt:=Q} (start N vs) H):FnOk P w K mg base (CXe P w) (k+1) f fd ps sp:=by
 obtain⟨_,_,kV,_,_,_,cdv,_,_,rfl,c,a⟩:=F.ex
 exact ZcR c a S len fun A outer s H vs Q E d b=>hbody _ A _ s H vs Q E d b
section
variable{X:Cx}{k:Nat}{f:Addr}{fd:FuncData}{ps:List Str}{sp:Sp}{dvs:List V}{ds:List Value}{x:Str}{p pos:Pos}{e:Expr}{es:List Expr}{t:TA}
theorem ZaX(F:FnM X.prog X.w X.K X.mg X.base k f fd ps sp)(hr:RoomM k X.A)(hg:Gl X x)(hm:X.mg x=some (.ref f))(hk:PySem.W.keepIn X.K (.ref f)=true)(hb:L2.Binds X.K fd ps ds)(hd:Vals dvs ds)
  (ha:PA X (e::es) t)(hdb:(x==("__debug__":Str))=false:=by decide)(he:starEach (e::es) X.env=(false,eval e X.env)::starEach es X.env:=by rfl)(hpl:(backTo pos (starEach es X.env)).any (·.1)=false:=by rfl):
  PE X (.Call (.Name x p) (e::es) [] pos) (ZbB sp dvs E0 t):=by
 refine fun a s σ H Q I h=>wpAny_Call_Name_kw (YJ I hg hm (PySem.W.callWith_K (h₀:=X.base) I.ok.mod.kin hk (thn (ha pos a s σ H _ I h) fun c i⟨m,j,d,r,q⟩=>⟨d.kIn,?_⟩) he hpl) hdb)
 have g:=r.append hd
 refine wpAny_call (codeAny_mono (F.run X.A X.stack i j ⟨c,[]⟩ (c++ds) (m++dvs) Q hr d.env0 (hb i c d.kIn (show(c++ds).length=ps.length by rw[<-g.length];exact F.len _ _ _ _ q)) g q) fun r _ b=>?_)
 cases r with
 |error e=>exact False.elim b
 |_ l=>
  cases l with
  |ret u=>exact d.after b
  |next=>exact False.elim b
  |brk=>exact False.elim b
  |_=>exact False.elim b
end
def Zen(K:Frag)(C:Addr):Bool:=match K.lookup C with
 |some ⟨_,_,.cls cd,_⟩=>(match K.lookup cd.ns with|some ⟨_,_,.dict es _,_⟩=>es.toList.all Zcc&&(nsFind es "__init__").isNone|_=>false)
 |_=>false
theorem Zk1{K:Frag}{h:Heap}{C D:Addr}(X:K.In h)(e:Zen K C=true):
  ∃mN,(∀nm q N bs sn sub ab col dd k0 k1 k2 k3 k5,h.get? C=some (excClassObj nm q C N bs (.ref D::Zb6) true sn sub ab col dd k0 k1 k2 k3 k5 "ValueError.__new__")->h.Ns N mN)/\mN "__init__"=none:=by
 unfold Zen at e
 split at e
 ·rename_i c d cd sl hC
  split at e
  ·rename_i c3 d3 es n3 sl3 hN
   rw[Bool.and_eq_true]at e
   refine⟨nsFind es,fun nm q N bs sn sub ab col dd k0 k1 k2 k3 k5 hg=>?_,by simpa using e.2⟩
   have z:=(X _ _ hC).symm.trans hg
   have z2:cd.ns=N:=congrArg (fun o:Option Obj=>match o with|some ⟨_,_,.cls cd,_⟩=>cd.ns|_=>0) z
   subst z2
   exact⟨_,es,n3,X _ _ hN,rfl,ZaM e.1,fun _=>rfl⟩
  ·cases e
 ·cases e
def ZgJ(C:Addr)(E:XK):TS:=fun _ _ H=>E (.ref C) none H
theorem Ze1{X:Cx}{k:Nat}{C D:Addr}{E:XK}{x:Str}{np pos cpos:Pos}(c:Zcx X.K C D=true)(cn:Zen X.K C=true)(kp:keepIn X.K (.ref C)=true)(hr:Room k X.A)(hg:Gl X x)(hm:X.mg x=some (.ref C))
  (hst:X.stack=X.env::X.outer)(hf:X.env.frame=some X.env.locals)(hex:X.ex=[])
  (hxe:∀e s',wpAny (model X.prog X.w) X.A (leaving X.env e) (fun _ s''=>CXe X.prog X.w X.outer X.H₀ X.s₀ E e s'') (fun e' s''=>CXe X.prog X.w X.outer X.H₀ X.s₀ E e' s'') s'->X.xe e s')
  (hdb:(x==("__debug__":Str))=false:=by decide):PS X (.Raise (some (.Call (.Name x np) [] [] cpos)) none pos) (ZgJ C E):=by
 intro pins s σ H Dn I h
 refine Zbl (C:=C) (D:=D) hr.hd (wpAny_Call_Name_kw (YJ I hg hm ?_ hdb))
 refine PySem.W.callWith_K0 I.kIn kp ?_
 obtain⟨hp,g,d,tk,os⟩:=s
 refine Zbr (Jw I.kIn c) (Zk1 I.kIn cn) (fun h' e hM=>?_) (Nat.zero_le _)
 obtain⟨t,he,ht,htt⟩:=hM.there
 have I1:=I.kept (h':=h') (t':=tk) hM.keeps
 have noA:∀b:Addr,b ∉ X.ex:=fun b z=>by rw[hex]at z;cases z
 have hn:X.s₀.heap.get? e=none:=by
  cases q:X.s₀.heap.get? e with
  |none=>rfl
  |some o=>
   obtain⟨o',q'⟩:=I.base.there e o q (noA e)
   have:=hM.new
   rw[show hp.get? e=some o' from q']at this
   cases this
 have hfree:H e=none:=by
  cases q:H e with
  |none=>rfl
  |some u=>
   obtain⟨o,ho⟩:=ZfC (I.hok e u q)
   have:=hM.new
   rw[show hp.get? e=some o from ho]at this
   cases this
 exact⟨e,t,none,rfl,Jw I1.kIn c,he,hxe _ _ (JQ hst hf hex I1 hn he hfree h)⟩
theorem ZcB{X:Cx}{K:Frag}{f:Str}{e:Expr}{ta:TE}{pos:Pos}(hK:X.K=K)(he:PE X e ta)(hb:attributeBase e f X.env (eval e X.env)=eval e X.env):PE X (.Attribute e f pos) (ZhC K ta f):=by
 subst hK
 exact ZgQ he hb
end RX
set_option maxHeartbeats 1000000
namespace L2
open PySem PySem.Spec PyProof.Rows PySem.SeqAt
section
variable{X:Cx}
inductive ZjF(K:PySem.W.Frag)(b:Bool)(x:V)(y:V)(H:Hp)(Q:VK):Prop
 |mk (p q:Addr) (d:Nat) (_:x= .ref p) (_:y= .ref q) (_:d<=150) (_:Sam K H d x y) (_:Q (.bl b) H)
theorem Za5{pins:List (Addr×Obj)}{σ:St}{H:Hp}{s:Shared}(I:Inv X pins σ H s){A:Around}{d:Nat}(hu:A.units+1+d<cLine){xs ys:List V}{vs ws:List Value}(rvs:Vals xs vs)(rws:Vals ys ws)(hl:xs.length=ys.length)
  (hk:∀(i:Nat) u v,xs[i]?=some u->ys[i]?=some v->Sam X.K H d u v) (j:Nat) (h1:j<vs.toArray.size) (h2:j<ws.toArray.size):EqAt A.in1 s vs.toArray[j] ws.toArray[j] true:=by
 have l1:=rvs.length
 have l2:=rws.length
 simp only[List.size_toArray]at h1 h2
 obtain⟨x1,e1,r1⟩:=rvs.get (List.getElem?_eq_getElem (l:=xs) (i:=j) (by omega))
 obtain⟨y1,e2,r2⟩:=rws.get (List.getElem?_eq_getElem (l:=ys) (i:=j) (by omega))
 have g1:vs[j]=x1:=by rw[List.getElem?_eq_getElem h1]at e1;exact Option.some.inj e1
 have g2:ws[j]=y1:=by rw[List.getElem?_eq_getElem h2]at e2;exact Option.some.inj e2
 have g:=Zdp I d A.in1 _ _ x1 y1 (by show A.units+1+d<cLine;omega) (hk j _ _ (List.getElem?_eq_getElem (by omega)) (List.getElem?_eq_getElem (by omega))) r1 r2
 simp only[List.getElem_toArray,g1,g2]
 exact g
theorem ZiC{k:Nat}(hr:Room k X.A):OpR X (compareOp .Eq) (ZjF X.K true):=by
 intro pins s σ H x y v u Q I rx ry h
 obtain⟨p,q,d,rfl,rfl,hd,h,hq⟩:=h
 cases(show v=Value.ref p from rx)
 cases(show u=Value.ref q from ry)
 have hun:=hr.un
 show wpAny _ _ (richCompare .Eq (.ref p) (.ref q)) _ _ s
 cases d with
 |zero=>exact h.2.elim
 |succ d=>
  rcases h with⟨_,h⟩|⟨a,b,xs,ys,ea,eb,h,hl,hk⟩
  ·exact h.elim
  cases ea
  cases eb
  rcases h with⟨ha,hb⟩|⟨ha,hb⟩
  ·obtain⟨vs,rvs,pa,_⟩:=I.tuple ha
   obtain⟨ws,rws,pb,_⟩:=I.tuple hb
   have l1:=rvs.length
   have l2:=rws.length
   refine RcAt.tuples (A:=X.A) (s:=s) (e:=fun _=>true) pa pb (by omega) (Za5 I (by omega) rvs rws hl hk) _ _ _ _ ?_
   have e2:(vs.toArray.size==ws.toArray.size)=true:=by simp;omega
   rw[all_true,e2]
   exact⟨.bl _,H,I,rfl,hq⟩
  ·obtain⟨vs,rvs,pa,_⟩:=I.list ha
   obtain⟨ws,rws,pb,_⟩:=I.list hb
   have l1:=rvs.length
   have l2:=rws.length
   refine RcAt.lists (A:=X.A) (s:=s) (e:=fun _=>true) pa.isList pb.isList (by simp;omega) (by omega) (Za5 I (by omega) rvs rws hl hk) _ _ _ _ ?_
   rw[all_true]
   exact⟨.bl _,H,I,rfl,hq⟩
theorem Zci{k:Nat}(hr:Room k X.A):OpR X (compareOp .NotEq) (ZjF X.K false):=by
 intro pins s σ H x y v u Q I rx ry h
 obtain⟨p,q,d,rfl,rfl,hd,h,hq⟩:=h
 cases(show v=Value.ref p from rx)
 cases(show u=Value.ref q from ry)
 have hun:=hr.un
 show wpAny _ _ (richCompare .NotEq (.ref p) (.ref q)) _ _ s
 cases d with
 |zero=>exact h.2.elim
 |succ d=>
  rcases h with⟨_,h⟩|⟨a,b,xs,ys,ea,eb,h,hl,hk⟩
  ·exact h.elim
  cases ea
  cases eb
  rcases h with⟨ha,hb⟩|⟨ha,hb⟩
  ·obtain⟨vs,rvs,pa,_⟩:=I.tuple ha
   obtain⟨ws,rws,pb,_⟩:=I.tuple hb
   have l1:=rvs.length
   have l2:=rws.length
   refine RcNeAt.tuples (A:=X.A) (s:=s) (e:=fun _=>true) pa pb (by omega) (Za5 I (by omega) rvs rws hl hk) _ _ _ _ ?_
   have e2:(vs.toArray.size==ws.toArray.size)=true:=by simp;omega
   rw[all_true,e2]
   exact⟨.bl _,H,I,rfl,hq⟩
  ·obtain⟨vs,rvs,pa,_⟩:=I.list ha
   obtain⟨ws,rws,pb,_⟩:=I.list hb
   have l1:=rvs.length
   have l2:=rws.length
   refine RcNeAt.lists (A:=X.A) (s:=s) (e:=fun _=>true) pa.isList pb.isList (by simp;omega) (by omega) (Za5 I (by omega) rvs rws hl hk) _ _ _ _ ?_
   rw[all_true]
   exact⟨.bl _,H,I,rfl,hq⟩
theorem Sam.up{K:PySem.W.Frag}{H:Hp}:∀{d:Nat}{x y:V},Sam K H d x y->Sam K H (d+1) x y
 |0,x,y,h=> .inl h
 |d+1,x,y,h=>by
  rcases h with h|⟨a,b,xs,ys,ea,eb,h,hl,hk⟩
  ·exact .inl h
  ·exact .inr ⟨a,b,xs,ys,ea,eb,h,hl,fun i u v h1 h2=>(hk i u v h1 h2).up⟩
theorem Sam.mono{K:PySem.W.Frag}{H:Hp}{d e:Nat}{x y:V}(h:Sam K H d x y)(hde:d<=e):Sam K H e x y:=by
 obtain⟨n,rfl⟩:=Nat.exists_eq_add_of_le hde
 clear hde
 induction n with
 |zero=>exact h
 |succ n ih=>exact ih.up
theorem Sam.tup{K:PySem.W.Frag}{H:Hp}{d:Nat}{a b:Addr}{xs ys:List V}(ha:H a=some (.tup xs))(hb:H b=some (.tup ys))(hl:xs.length=ys.length)(hk:∀(i:Nat) u v,xs[i]?=some u->ys[i]?=some v->Sam K H d u v):Sam K H (d+1) (.ref a) (.ref b):=
 .inr ⟨a,b,xs,ys,rfl,rfl,.inl ⟨SqT.of ha,SqT.of hb⟩,hl,hk⟩
theorem Sam.atom{K:PySem.W.Frag}{H:Hp}{d:Nat}{x:V}(h:Atom x):Sam K H d x x:=by
 cases d with
 |zero=>exact⟨rfl,h⟩
 |succ d=>exact .inl ⟨rfl,h⟩
end
end L2
namespace L2
open PySem PySem.Spec PyProof.Rows
def Zlr(K:PySem.W.Frag)(bs:List (Option Nat))(ta:TA)(g:TG)(tt:TT)(te:TE):TE:=fun σ H Q=>ta σ H fun vs H1=>∃a c xs ys,vs=[.ref a,.ref c]/\SqT K H1 a xs/\SqT K H1 c ys/\xs.length=ys.length/\xs.length<=100000/\∃Pv:Nat->List V->St->Hp->Prop,Pv 0 [] (bst bs σ) H1/\
 (∀i zs σ H,i<=xs.length->Pv i zs σ H->SqT K H a xs/\SqT K H c ys/\zs.length<=i)/\
 (∀i x y zs σ H,xs[i]?=some x->ys[i]?=some y->Pv i zs σ H->∀T H2,Same H H2->H2 T=some (.tup [x,y])->g (.ref T) σ H2 fun σ3 H3=>tt σ3 H3 fun b H4=>if b=true then te σ3 H4 fun v H5=>Pv (i+1) (zs++[v]) σ3 H5 else Pv (i+1) zs σ3 H4)/\
 ∀zs σ H,Pv xs.length zs σ H->∀p H',Same H H'->H' p=some (.lst zs)->Q (.ref p) H'
theorem Zi8{X:Cx}{scope:Scope}{cl:List (Str×Addr)}{N:List Str}{bs:List (Option Nat)}{elts:List Expr}{x1:Nat}{tpos:Pos}{a b elt:Expr}{ifs:List Expr}{p pos' pos:Pos}{ta:TA}{g:TG}{tt:TT}{te:TE}(B:Blk X scope cl N bs)(hc:X.calm=true)
  (hgl:Gl X "zip")(hmr:X.mg "zip"=none)(ha:PA X [a,b] ta)(hm:Zah ta)(hpl:ZV a=true)(hpl2:ZV b=true)(hg:∀C fp s H,PG (ZA X scope cl C N fp s H) (.Tuple elts x1 tpos) g) (ht:∀C fp s H,PTs (ZA X scope cl C N fp s H) ifs tt) (he:∀C fp s H,PE (ZA X scope cl C N fp s H) elt te)
  (hs:∀x,foldedSetIterable (.Call (.Name "zip" p) [a,b] [] pos') X.env x=pure x:=by intro _;rfl):PE X (.ListComp elt [⟨.Tuple elts x1 tpos,.Call (.Name "zip" p) [a,b] [] pos',ifs,0⟩] scope pos) (Zlr X.K bs ta g tt te):=by
 intro pins s σ H Q I h
 refine @ZdS X scope cl N bs _ _ elt ifs pos (ZhT X.K ta) g tt te B hc (@ZgP X elts x1 tpos a b ta p pos' hgl hmr ha hpl hpl2) hg ht he hs pins s σ H Q I ?_
 refine hm σ H _ _ (fun vs H1 h=>?_) h
 obtain⟨a,c,xs,ys,e,hS,hS2,hle,hz,Pv,p0,pl,ps,pd⟩:=h
 refine⟨a,c,e,⟨xs,hS⟩,⟨ys,hS2⟩,fun i m zs σ H=>m=xs.length-i/\i<=xs.length/\Pv i zs σ H,⟨xs.length,by simp,Nat.zero_le _,p0⟩,?_⟩
 rintro i m zs σ H ⟨rfl,hi,pv'⟩
 obtain⟨q,q2,ql⟩:=pl i zs σ H hi pv'
 have hz':=YI hz
 by_cases hlt:i<xs.length
 ·have hlt2:i<ys.length:=by omega
  refine .inr ⟨⟨xs,ys,xs[i],ys[i],q,q2,by simp[hlt],by simp[hlt2]⟩,by omega,Pv (i+1),fun zs σ' H' p'=>⟨xs.length-(i+1),by omega,rfl,hlt,p'⟩,fun x H' y=>?_⟩
  obtain⟨T,u,v,rfl,hT,rfl,hu,hv⟩:=y
  exact ps i u v zs σ H (hu xs q) (hv ys q2) pv' T _ (Zz hT) Zd
 ·have e:i=xs.length:=by omega
  subst e
  exact .inl ⟨⟨xs,ys,q,q2,.inl (Nat.le_refl _)⟩,by omega,fun p hpn=>pd zs σ H pv' p _ (Zz hpn) Zd⟩
theorem Zaw{X:Cx}{P:Program}{w:World}{i o:Expr}{ty td:TE}(hP:X.prog=P)(hw:X.w=w)(hi:PE X i ty)(ho:PE X o td):PC X .NotIn i o (Zc3 P w ty td):=by
 subst hP
 cases hw
 exact Zdx hi ho
end L2
namespace PySem.W
open PySem PySem.Spec PySem.Calls PyProof.Rows PyProof.V
section
variable{prog:Program}{w:World}{A:Around}{E:Value->Shared->Prop}{s:Shared}{T:String}{r d:Addr}{n:Nat}{P:Nat->Value->Prop}{OK:Heap->Prop}
theorem dcollect{R}(K:KdlSrc prog w T r d n P OK)(hh:A.handled=none)(hok:OK s.heap)(hn:n<=sizeLine)
  (h:∀(h':Heap)(tk:Nat)(acc:Array _),(∀b o,s.heap.get? b=some o->h'.get? b=some o)->s.heap.objs.size<h'.objs.size->ItemsOf P acc n->R acc.toList {s with heap:=h',toks:=tk}):
  wpAny (model prog w) A (collect (.ref r)) R E s:=by
 have j:=K.there _ hok
 refine wpAny_bind (wpAny_runValue (codeAny_builtin entry_proto_collect' (wpAny_bind (wpAny_newObj_type (wpAny_pure ⟨plainId_quiet PySem.F.plain_list_iadd _,codeAny_builtin entry_list_iadd' ?_⟩)))))
 have key:=kdl_extend (s:={s with heap:=s.heap.push {cls:= .type "list",data:= .seq [].toArray}})
  (R:=fun q t=>∃h' tk a m,q= .ok (.ret (.ref s.heap.objs.size))/\t={s with heap:=h',toks:=tk}/\
   (∀b o,s.heap.get? b=some o->h'.get? b=some o)/\h'.get? s.heap.objs.size=some {cls:= .type "list",dict:=none,data:= .seq a m,slots:=#[]}/\ItemsOf P a n)
  K hh (K.keep _ _ hok fun b _ o e=>Heap.get?_push_of_some _ e) _ (Nat.ne_of_gt j.1) (Nat.ne_of_gt j.2) _ 0 (show(s.heap.push _).get? _=some _ from Heap.get?_push_size _ rfl)
  (fun h' tk a m l g c=>⟨h',tk,a,m,rfl,rfl,fun b o e=>l b o (Nat.ne_of_lt (Heap.lt_size e)) (Heap.get?_push_of_some _ e),g,c⟩) hn
 refine wpAny_mono key (fun fin t x=>?_) fun e t x=>?_
 ·cases fin with
  |done f=>
   obtain⟨h',tk,a,m,e,rfl,l,g,c⟩:=x
   cases e
   exact wpAny_bind (wpAny_load g (wpAny_pure (h h' tk a l (Heap.lt_size g) c)))
  |again c₁=>
   refine⟨x.1,codeAny_mono x.2 fun q s₂ y=>?_⟩
   obtain⟨h',tk,a,m,rfl,rfl,l,g,c⟩:=y
   exact wpAny_bind (wpAny_load g (wpAny_pure (h h' tk a l (Heap.lt_size g) c)))
 ·grind
end
end PySem.W
namespace L2
open PySem PySem.Spec PyProof.Rows
section
variable{prog:Program}{w:World}{K:Type}[DecidableEq K]{knd:KeyKind prog w K}{A:Around}{E:Value->Shared->Prop}{s:Shared}
theorem Zc4{d}{kvs:List (K×Value)}{ns:List _}{Q:Value->Shared->Prop}(hh:A.handled=none)(lo:(d==sysModules)=false)(hD:s.heap.DictOf knd d kvs)(h64:kvs.length<64)
  (hk:∀(i:Nat)(k:K)(x v:Value),kvs[i]?=some (k,x)->knd.is k v=true->∃t,v= .int (ns.getD i 0) t) (hl:ns.length=kvs.length)
  (h:∀(h':Heap)(tk:Nat)(p:Addr)(out:Array _)(e:Nat)(ns':List _),(∀b o,s.heap.get? b=some o->h'.get? b=some o)->s.heap.objs.size<=p->h'.get? p=some (seqObj "list" out e)->IntsAre out.toList ns'->ns'.Perm ns->ns'.Pairwise (·<=·)->Q (.ref p) {s with heap:=h',toks:=tk}):
  wpAny (model prog w) A (call (.builtin "sorted") [.ref d]) Q E s:=by
 obtain⟨ep,D⟩:=hD.dictAt
 refine Calls.call_function_entry kind_sorted plain_sorted entry_sorted (args_sorted1 _) (wpAny_bind (wpAny_pure (wpAny_bind (PySem.W.dcollect (PySem.W.kdl_dict (knd:=knd) (kvs:=kvs) (ep:=ep) lo) (by simp[hh]) D (YI (by omega)) fun F tk l r hsz f=>?_))))
 have hl1:l.toList.length=kvs.length:=by rw[Array.length_toList];exact f.1
 refine wpAny_bind (wpAny_newList ?_ (YI (by omega)))
 have n:(F.push _).get? _=some (seqObj "list" l.toList.toArray 0):=Heap.get?_push_size _ rfl
 have hI:IntsAre l.toList ns:=by
  have y:∀(q:List Value)(c:List Int),q.length=c.length->(∀(i:Nat) v,q[i]?=some v->∃t,v= .int (c.getD i 0) t)->IntsAre q c:=by
   intro q
   induction q with
   |nil=>intro c hl _;cases c with|nil=>exact .nil|cons _ _=>cases hl
   |cons v q ih=>
    intro c hl z
    cases c with
    |nil=>cases hl
    |cons m c=>
     obtain⟨t,rfl⟩:=z 0 v rfl
     exact .cons _ _ (ih c (by simpa using hl) fun i v' B=>z (i+1) v' (by simpa using B))
  refine y _ _ (by omega) fun i v z=>?_
  obtain⟨k,x,hx,C⟩:=f.2 i v (by grind)
  exact hk i k x v hx C
 refine wpAny_bind (wpAny_holding (wpAny_call_entry slot_list_sort ⟨_,n,rfl⟩ entry_list_sort (list_sort_tree n hI (by omega) fun out ns' a1 a2 a3=>⟨_,rfl,?_⟩) (args_list_sort _)))
 obtain⟨e,he⟩:=sortedHeap_at (out:=out) n
 refine wpAny_pure ⟨_,rfl,h _ tk F.objs.size out e ns' (fun b o H=>?_) ?_ he a1 a2 a3⟩
 ·have u:=Heap.lt_size (r b o H)
  rw[sortedHeap_old (Nat.ne_of_lt u) (by rw[size_push'];exact Nat.lt_succ_of_lt u)]
  exact Heap.get?_push_of_some _ (r b o H)
 ·omega
end
section
variable{X:Cx}
theorem ZfI{ns}:∀{us},IntsAre us ns->Vals (ns.map V.int) us:=by
 induction ns with
 |nil=>intro us r;cases r;exact .nil
 |cons k _ d=>
  intro us r
  cases r with
  |cons _ t c=>exact .cons ⟨t,rfl⟩ (d c)
inductive rSortedD(xs:List V)(H:Hp)(Q:VK):Prop
 |mk (d:_) (kvs:List (Key×V)) (ns:List Int) (_:xs=[.ref d]) (_:H d=some (.dK kvs)) (_:kvs.map (·.1)=ns.map Sum.inl) (_:ns.length<64) (_:∀p(ns':List Int) H',Same H H'->H' p=some (.lst (ns'.map V.int))->ns'.Perm ns->ns'.Pairwise (·<=·)->Q (.ref p) H')
theorem Zcs{k}(hr:Room k X.A):CallR X (.builtin "sorted") rSortedD:=by
 intro _ s σ H xs us Q I r h
 obtain⟨d,b,ns,rfl,hd,C,h64,q⟩:=h
 obtain⟨u,rfl,rx⟩:=vals1 r
 cases rx
 obtain⟨z,lo,f,j,dd⟩:=Zgd I.hok hd
 have hvl:=Paired.length j
 have hkl:b.length=ns.length:=by have:=congrArg List.length C;simpa using this
 have c:f.map (·.1)=ns.map Sum.inl:=by
  rw[<-C]
  have:∀{b}{f:List (Key×Value)},KV b f->f.map (·.1)=b.map (·.1):=by
   intro b f r
   induction r with
   |nil=>rfl
   |_ h _ ih=>grind
  exact this j
 refine Zc4 (ns:=ns) hr.hd lo dd (by omega) (fun i k x v hi hv=>?_) (by omega) fun h' tk p B e w kp hp he a1 a2 a3=>?_
 ·have y:(f.map (·.1))[i]?=some k:=by rw[List.getElem?_map,hi];rfl
  rw[c,List.getElem?_map]at y
  cases hn:ns[i]? with
  |none=>grind
  |some m=>
   rw[hn]at y
   cases y
   rw[List.getD_eq_getElem?_getD,hn]
   obtain⟨t,e⟩:=Value.isInt_shape hv
   exact⟨t,e⟩
 ·have hln:=a2.length_eq
  exact⟨.ref p,_,I.laid (t':=tk) (a:=p) (o:= .lst (w.map V.int)) kp hp ⟨by grind,B.toList,e,ZfI a1,he⟩,rfl,q _ w _ (Zz (I.hok.fresh hp)) Zd a2 a3⟩
def Zca(td ty tx:TE):TE:=fun σ H Q=>td σ H fun x H1=>∃a,x= .ref a/\IsD H1 a/\ty σ H1 fun y H2=>tx σ H2 fun z H3=>∃kvs k,H3 a=some (.dK kvs)/\y=kV k/\kvs.length<100000/\(∀v,ZP kvs k=some v->Q v H3)/\(ZP kvs k=none->Q z (upd H3 a (.dK (putK kvs k z))))
theorem Zf1{o e f}{td ty tx}{apos cpos}(ho:PE X o td)(he:PE X e ty)(hf:PE X f tx)(m:M2 X o "setdefault" apos e f cpos):PE X (.Call (.Attribute o "setdefault" apos) [e,f] [] cpos) (Zca td ty tx):=by
 refine fun i s σ H Q I h=>wpAny_Call_method m.base m.few m.line PySem.F.plainAttrs_dict PySem.F.slot_dict_setdefault PySem.F.type_dict_setdefault (thn (ho i s σ H _ I h) fun u s1 xq1=>?_)
 obtain⟨x,H1,I1,rx,a,ex,d,q1⟩:=xq1
 subst ex
 obtain rfl:u=Value.ref a:=rx
 obtain⟨t1,t2,_⟩:=ZfP I1 d
 refine⟨t1,t2,?_⟩
 rw[m.trees]
 refine Calls.callWith_builtin rfl (Calls.evalArgs_plain (Calls.spliced_cons (thn (he i s1 σ H1 _ I1 q1) fun iv s2⟨y,H2,I2,ry,q2⟩=>
  Calls.spliced_cons (thn (hf i s2 σ H2 _ I2 q2) fun fv s3⟨z,H3,I3,rz,g,k,hd,ey,hl,q3,q4⟩=>Calls.spliced_nil ?_))))
 subst ey
 obtain⟨zz,lo,vs,l,dd⟩:=Zgd I3.hok hd
 refine call_meetsIn PySem.F.slot_dict_setdefault dd.typeIs PySem.F.entry_dict_setdefault (PySem.F.args_dict_setdefault_3 _ _ _) (kt_meets_setdefault (ZQ X.prog X.w) a (ZbL ry) lo fv) ⟨vs,dd,(show vs.length<=sizeLine by rw[<-l.length];exact zz),fun v hv=>?_,fun hn h' t hs=>?_⟩
 ·have j:=l.val k
  rw[hv]at j
  cases r:ZP g k with
  |none=>rw[r]at j;exact j.elim
  |some x=>rw[r]at j;exact⟨x,H3,I3.tok _,j,q3 x r⟩
 ·have j:=l.val k
  rw[hn]at j
  have r:ZP g k=none:=by
   cases r:ZP g k with
   |none=>rfl
   |some x=>rw[r]at j;exact j.elim
  exact⟨z,_,Zcr I3 (by rw[hd];exact True.intro) hs (show∃q,h'.get? a=some q from let⟨q,_,_,hq,_⟩:=t;⟨q,hq⟩) (Zge (show(putK g k z).length<=sizeLine from YI (by have:=ZN g k z;omega)) lo (l.put k rz) t),rz,q4 r⟩
end
end L2
namespace SetT
open PySem PySem.SetTable PySem.Spec PyProof.Rows
def ZlV:Value->Int
 | .int i _=>i
 |_=>0
def byT(w:World):Bool:=w.params.followText "set-order"
def SI(prog:Program)(w:World)(h:Heap)(a:Addr)(ks:List Int):Prop:=
 ∃o es ep t,h.get? a=some o/\o.ExactSet/\o.data= .set es ep t/\Zlh t es/\Mk t.mask/\es.size*5<t.mask*3/\t.plain=true/\t.led= !byT w/\ElemsOf (intKind prog w) es.toList/\(es.toList.map fun e=>ZlV e.2).Perm ks
variable{prog:Program}{w:World}{A:Around}{E:Value->Shared->Prop}{s:Shared}
theorem SI.at'{h h':Heap}{a:Addr}{ks:List Int}(x:SI prog w h a ks)(k:∀o,h.get? a=some o->h'.get? a=some o):SI prog w h' a ks:=let⟨o,es,ep,t,ho,r⟩:=x;⟨o,es,ep,t,k o ho,r⟩
variable{prog:Program}{w:World}{A:Around}{E:Value->Shared->Prop}{s:Shared}
end SetT
namespace L2
open PySem PySem.Spec PyProof.Rows
section
variable{X:Cx}
inductive Ziw(K:PySem.W.Frag)(x:V)(vs:List V)(H:Hp)(Q:VK):Prop
 |mk (l:_) (ns:List Int) (k:Int) (_:x= .ref l) (_:vs=[.int k]) (_:SqL K H l (ns.map V.int)) (_:ns.length<=1000) (_:Q (.int (ns.count k:Nat)) H)
theorem ZcG{K:PySem.W.Frag}(hK:X.K=K):MtM X "list.count" (Ziw K):=by
 subst hK
 intro pins s σ H x vs v us Q I rx rv h
 obtain⟨l,ns,k,rfl,rfl,hH,hz,q⟩:=h
 cases rx
 obtain⟨u,rfl,ru⟩:=rv.one
 obtain⟨t,rfl⟩:=(show∃t,u=Value.int k t from ru)
 obtain⟨its,r,pl,hz'⟩:=I.list hH
 have hvl:=r.length
 rw[List.length_map]at hvl
 exact count_list_ints (ns:=ns) pl.isList (Zcn r) ⟨.int (ns.count k:Nat),H,I.tok _,⟨_,rfl⟩,q⟩
end
end L2
namespace PySem
open Sem (wp)
open PyProof.Rows
section
variable{prog:Program}{w:World}{A:Around}{R:Result->Shared->Prop}{I:Addr}{fp wr:List Addr}{n:Nat}{P:Nat->Value->Prop}{St:Nat->Heap->Prop}{d:Value}
theorem Ze6(W:Walks prog w A.in1 I fp wr n P St)(bt)(hcmp:CmpOf prog w A.in1 .Lt P bt)(S)(hSf:S ∉ fp):
  ∀(k j)(s)(vb)(c),n-(j+1)=k->j+1<=n->St (j+1) s.heap->P (argBest bt j) vb->
  s.heap.get? S=some {cls:= .type "list",dict:=none,data:= .seq #[vb,vb] c,slots:=#[]}->
  (∀v h' tk,P (argBest bt (n-1)) v->(∀b o,b ∉ wr->b≠S->s.heap.get? b=some o->h'.get? b=some o)->R (.ok (.ret v)) {s with heap:=h',toks:=tk})->
  codeAny (model prog w) A (.builtin "min.loop" ⟨[.ref I,.none,.ref S],[("default",d)]⟩) R s:=by
 have hSw:=fun h=>hSf (W.sub _ h)
 have p:(toString "min"++toString ".loop")="min.loop":=by decide
 intro k
 induction k with
 |zero=>
  intro j s vb c hk hj B t hS hR
  have hin:j+1=n:=by omega
  refine codeAny_builtin F.entry_min_loop (wpAny_bind (wpAny_seqItems hS rfl (wpAny_bind (wpAny_tryCatch (W.done s _ _ (hin▸B) fun h' tk f=>?_)))))
  have l:=f S _ hSw hS
  refine wpAny_bind (wpAny_updateSeq l rfl (wpAny_bind (wpAny_letGo (wpAny_pure (hR vb _ tk (by rw[<-hin];exact t) fun b o a i e=>(Heap.get?_update_other _ _ (Ne.symm i)).trans (f b o a e))))))
 |succ k ih=>
  intro j s vb c hk hj B t hS hR
  have x:j+1<n:=by omega
  refine codeAny_builtin F.entry_min_loop ?_
  rw[Around.under_plainId F.plain_min_loop _]
  refine wpAny_bind (wpAny_seqItems hS rfl (wpAny_bind (wpAny_tryCatch (W.item (j+1) s _ _ x B fun v h' tk hP u f=>?_))))
  have l:=f S _ hSw hS
  show wpAny _ A.in1 (tryCatch (holding [v,v] (richCompare .Lt v vb>>=_)) _>>=_) _ _ _
  refine wpAny_bind (wpAny_tryCatch (wpAny_holding (wpAny_bind (hcmp (j+1) (argBest bt j) v vb _ _ _ hP t (wpAny_bind (wpAny_holding (wpAny_truthy_bool (wpAny_bind (wpAny_letGo (wpAny_pure ?_))))))))))
  cases hb:bt (j+1) (argBest bt j)with
  |true=>
   simp[if_true]
   refine wpAny_bind (wpAny_updateSeq l rfl (wpAny_bind (wpAny_letGo ?_)))
   rw[p]
   refine wpAny_pure ⟨plainId_quiet F.plain_min_loop _,ih (j+1) _ v _ (by omega) x (W.frame _ _ _ u fun b hbf o e=>?_) (by simp[argBest,hb,if_true];exact hP) (Heap.get?_update_self _ l rfl)
    fun v' y q z r=>?_⟩
   ·exact(Heap.get?_update_other _ _ (fun h:S=b=>hSf (by rw[h];exact hbf))).trans e
   ·exact hR v' y q z fun b o a i e=>r b o a i ((Heap.get?_update_other _ _ (Ne.symm i)).trans (f b o a e))
  |false=>
   simp[Bool.false_eq_true,if_false]
   refine wpAny_bind (wpAny_letGo ?_)
   rw[p]
   exact wpAny_pure ⟨plainId_quiet F.plain_min_loop _,ih (j+1) _ vb c (by omega) x u (by simp[argBest,hb,Bool.false_eq_true,if_false];exact t) l fun v' y q z r=>(hR v' y q z fun b o a i e=>r b o a i (f b o a e))⟩
theorem Zd2(W:Walks prog w A.in1 I fp wr n P St)(bt)(hcmp:CmpOf prog w A.in1 .Lt P bt)(S)(hSf:S ∉ fp)(hn:0<n){s}{c}(hst:St 0 s.heap)
  (hS:s.heap.get? S=some {cls:= .type "list",dict:=none,data:= .seq #[] c,slots:=#[]})
  (hR:∀v h' tk,P (argBest bt (n-1)) v->(∀b o,b ∉ wr->b≠S->s.heap.get? b=some o->h'.get? b=some o)->R (.ok (.ret v)) {s with heap:=h',toks:=tk}):
  codeAny (model prog w) A (.builtin "min.loop" ⟨[.ref I,.none,.ref S],[("default",d)]⟩) R s:=by
 refine codeAny_builtin F.entry_min_loop (wpAny_bind (wpAny_seqItems hS rfl (wpAny_bind (wpAny_tryCatch (W.item 0 s _ _ hn hst fun v h' tk t i g=>?_)))))
 have j:=g S _ (fun h=>hSf (W.sub _ h)) hS
 show wpAny _ _ (updateSeq S (fun _=>#[v,v])>>=_) _ _ _
 refine wpAny_bind (wpAny_updateSeq j rfl ?_)
 refine wpAny_pure ⟨plainId_quiet F.plain_min_loop _,Ze6 W bt hcmp S hSf _ 0 _ v _ rfl hn (W.frame _ _ _ i fun b p o e=>?_) t (Heap.get?_update_self _ j rfl) fun u r k q l=>?_⟩
 ·exact(Heap.get?_update_other _ _ (fun h:S=b=>hSf (by rw[h];exact p))).trans e
 ·exact hR u r k q fun b o m f e=>l b o m f ((Heap.get?_update_other _ _ (Ne.symm f)).trans (g b o m e))
theorem minD_empty(W:Walks prog w A.in1 I fp wr n P St)(S)(hSf:S ∉ fp)(hn:n=0){s}{c}(hst:St 0 s.heap)
  (hS:s.heap.get? S=some {cls:= .type "list",dict:=none,data:= .seq #[] c,slots:=#[]})
  (hR:∀h' tk,(∀b o,b ∉ wr->s.heap.get? b=some o->h'.get? b=some o)->R (.ok (.ret d)) {s with heap:=h',toks:=tk}):
  codeAny (model prog w) A (.builtin "min.loop" ⟨[.ref I,.none,.ref S],[("default",d)]⟩) R s:=by
 subst hn
 exact codeAny_builtin F.entry_min_loop (wpAny_bind (wpAny_seqItems hS rfl (wpAny_bind (wpAny_tryCatch (W.done s _ _ hst fun h' tk a=>(wpAny_bind (wpAny_rule (wpAny_pure (hR h' tk a)))))))))
end
section
variable{prog:Program}{w:World}{A:Around}{E:Value->Shared->Prop}{s:Shared}
theorem Zgt(a v):argsOk "min" ⟨[a],[(Str.ofString "default",v)]⟩:=by kernel_rfl
theorem ZeN{x d}{Q}
  (h:wpAny (model prog w) A.in1 (pyIter x) (fun it s₂=>∃I fp wr n P St bt,it= .ref I/\Walks prog w A.in1 I fp wr n P St/\St 0 s₂.heap/\(∀b∈fp,b<s₂.heap.objs.size)/\CmpOf prog w A.in1 .Lt P bt/\
   (n=0->∀h' tk,(∀b o,b ∉ wr->s₂.heap.get? b=some o->h'.get? b=some o)->Q d {s₂ with heap:=h',toks:=tk})/\
   (0<n->∀v h' tk,P (argBest bt (n-1)) v->(∀b o,b ∉ wr->s₂.heap.get? b=some o->h'.get? b=some o)->Q v {s₂ with heap:=h',toks:=tk})) E s):
  wpAny (model prog w) A (call (.builtin "min") [x] [(Str.ofString "default",d)]) Q E s:=by
 refine kmk_tree F.kind_min F.plain_min F.entry_min (Zgt _ _) (wpAny_bind (wpAny_of_eq rfl (wpAny_bind (wpAny_pure (wpAny_bind (wpAny_mono h (fun it s₂ p=>?_) fun _ _ e=>e))))))
 obtain⟨I,fp,wr,n,P,St,bt,rfl,W,f,k,g,m,q⟩:=p
 refine wpAny_bind (wpAny_newObj_type ?_)
 have c:=fun r=>Nat.lt_irrefl _ (k _ r)
 rcases Nat.eq_zero_or_pos n with i|i
 ·refine wpAny_pure ⟨plainId_quiet F.plain_min_loop _,minD_empty W s₂.heap.objs.size c i (W.frame _ _ _ f fun b _ o e=>Heap.get?_push_of_some _ e) (Heap.get?_push_size _ rfl) fun h' tk j=>?_⟩
  exact m i h' tk fun b o a e=>j b o a (Heap.get?_push_of_some _ e)
 ·refine wpAny_pure ⟨plainId_quiet F.plain_min_loop _,Zd2 W bt g s₂.heap.objs.size c i (W.frame _ _ _ f fun b _ o e=>Heap.get?_push_of_some _ e) (Heap.get?_push_size _ rfl) fun v h' tk l j=>?_⟩
  exact q i v h' tk l fun b o a e=>j b o a (Nat.ne_of_lt (Heap.lt_size e)) (Heap.get?_push_of_some _ e)
end
end PySem
namespace PySem.SeqAt
open PySem PyProof.Rows
theorem Zjp{α}{M}{A}{E}{s}{t t'}{Q:α->Shared->Prop}(h:t=t')(k:wpAny M A t' Q E s):wpAny M A t Q E s:=h▸k
theorem tuple_indexAt(l)(items)(n)(dd)(sl)(x:Value)(e:Value->Bool)(j:Nat)(hj:j<items.size)
  (hit:e items[j]=true)(hno:∀m(hm:m<items.size),m<j->e items[m]=false):
  Meets (Builtin.«tuple.index» ⟨[.ref l,x],[]⟩)
   (fun A R s=>s.heap.get? l=some {cls:= .type "tuple",dict:=dd,data:= .seq items n,slots:=sl}/\(∀y,y∈items->EqAt A.in1 s y x (e y))/\R (.ok (.ret (.int j s.toks))) {s with toks:=s.toks+1}):=
 .of_wp fun prog w A R s h=>by
  obtain⟨hp,g,d,tk,os⟩:=s;obtain⟨hl,he,h⟩:=h
  wp_walk using AutoSeq1.wpAny_loadPart' hl
  refine Zjp (Std.Legacy.Range.forIn_eq_forIn_range' (m:=Sem) [:min items.size items.size] (none,()) (fun(i:Nat) __s=>(match items[i]? with
      |some y=>do
       let b<-eqBool y x
       if b=true then do
         let r<-retInt (i:Int)
         pure (ForInStep.done (some r,()))
        else pure (ForInStep.yield (none,()))
      |_=>pure (ForInStep.yield (none,()))))) ?_
  refine wpAny_forIn_list _ (fun a b s'=>b.1=none/\s'=⟨hp,g,d,tk,os⟩/\∃i,i<=j/\a=List.range' i (items.size-i)) _ ?_ ?_ _ _ ⟨rfl,rfl,0,Nat.zero_le _,by simp⟩
  ·rintro k a b s' ⟨hb,rfl,i,hi,hr⟩
   have o:i<items.size:=by omega
   obtain⟨rfl,p⟩:k=i/\a=List.range' (i+1) (items.size-(i+1)):=by
    rw[(show items.size-i=(items.size-(i+1))+1 by omega),List.range'_succ]at hr
    injection hr with h1 h2
    exact⟨h1,h2⟩
   rw[Array.getElem?_eq_getElem o]
   refine wpAny_bind (he items[k] (Array.getElem_mem o) prog w _ _ ?_)
   by_cases hkj:k=j
   ·subst hkj
    rw[hit]
    wp_walk
    exact⟨_,rfl,h⟩
   ·rw[hno k o (by omega)]
    wp_walk
    exact⟨rfl,rfl,k+1,by omega,p⟩
  ·rintro b s' ⟨hb,rfl,i,hi,hr⟩
   exfalso
   have:=congrArg List.length hr
   rw[List.length_range']at this
   simp at this
   omega
end PySem.SeqAt
namespace L2
open PySem PySem.Spec PyProof.Rows
def Zie(K:PySem.W.Frag)(d:Int)(ta:TE):TE:=fun σ H Q=>ta σ H fun x H1=>∃p,∃ns,x= .ref p/\SqT K H1 p (ns.map V.int)/\∀M,((ns=[]/\M=d)\/(M∈ns/\∀a∈ns,a<=M))->Q (.int M) H1
theorem Zfz{X}{a ed}{ta}{d}{p pos kpos}(hc:X.calm=true)(ha:PE X a ta)(hd:PE X ed (tC (.int d)))(hg:Gl X "max":=by rfl)(hm:X.mg "max"=none:=by rfl)(hs:starEach [a] X.env=[(false,eval a X.env)]:=by rfl):
  PE X (.Call (.Name "max" p) [a] [⟨some "default",ed,kpos⟩] pos) (Zie X.K d ta):=by
 refine fun pins s σ H Q I h=>wpAny_Call_Name_kw (Yy I hg hm boot_max (callWith_kw (thn ((JV ha Za hs) _ _ s σ H (ZbF fun x z=>∃p,∃c:List _,x= .ref p/\SqT _ z p _/\∀M,((c=[]/\M=d)\/(M∈c/\∀a∈c,a<=M))->Q _ z) I h) fun us s1 xq1=>?_) (by rw[hs];rfl) (by rw[hs];rfl)))
 obtain⟨y,z,I1,r1,q1⟩:=xq1
 obtain⟨x1,rfl,q1⟩:=Jr q1
 obtain⟨u1,rfl,ru⟩:=vals1 r1
 obtain⟨l,c,rfl,hp,q⟩:=q1
 cases ru
 refine wpAny_evalAll_cons (wpAny_bind (thn (hd _ s1 σ z (fun v H2=>v= .int d/\H2=z) I1 ⟨rfl,rfl⟩) fun ud w⟨v2,H2,I2,r2,e1,m⟩=>wpAny_bind (wpAny_standAt (wpAny_pure (wpAny_evalAll_nil ?_)))))
 subst e1 m
 obtain⟨td,rfl⟩:=r2
 obtain⟨y,rv,pl,hz⟩:=I2.tuple hp
 have hl:=pl
 have f:l<w.heap.objs.size:=by obtain⟨_,e,_⟩:=hl;exact Heap.lt_size e
 have g:y.length=c.length:=by have:=rv.length;simpa using this.symm
 have r:∀i v,y.toArray[i]?=some v->∃t,v=Value.int (c.getD i 0) t:=by
  intro i v e
  have hi:i<c.length:=by grind
  obtain⟨u,m,r2⟩:=rv.get (i:=i) (x:= .int c[i]) (by simp_all)
  rw[(show y[i]?=some v by simpa using e)]at m
  cases m
  obtain⟨t,rfl⟩:=r2
  exact⟨t,by simp_all⟩
 have k:∀(it:Obj)(h':Heap),(∀b o,b ∉ [w.heap.objs.size]->(w.heap.push it).get? b=some o->h'.get? b=some o)->∀b o,w.heap.get? b=some o->h'.get? b=some o:=fun it h' hk b o m=>hk b o (fun hm=>by
  rw[List.mem_singleton.mp hm]at m
  exact Nat.lt_irrefl _ (Heap.lt_size m)) (Heap.get?_push_of_some _ m)
 refine ZbT (wpAny_pyIter_tuple hl ⟨w.heap.objs.size,[w.heap.objs.size,l],[w.heap.objs.size],_,_,_,_,rfl,Walks.tuple (A:=X.A.in1) (I2.ok.hd hc) _ l (Nat.ne_of_lt f) y.toArray,⟨⟨_,Heap.get?_push_size _ rfl,rfl,rfl⟩,hl.push _⟩,fun b hb=>?_,CmpOf.ints_gt (fun i=>c.getD i 0) r,fun hn h' tk hk=>?_,fun hn v h' tk hP hk=>?_⟩)
 ·rw[Heap.size_push]
  simp[List.mem_cons,List.not_mem_nil,or_false]at hb
  rcases hb with rfl|rfl
  ·exact Nat.lt_succ_self _
  ·exact Nat.lt_succ_of_lt f
 ·rw[List.size_toArray,g]at hn
  exact⟨.int d,_,I2.kept (t':=tk) (k _ _ hk),⟨td,rfl⟩,q d (.inl ⟨List.length_eq_zero_iff.mp hn,rfl⟩)⟩
 ·obtain⟨t,rfl⟩:=r _ _ hP
  obtain⟨h1,h2⟩:=argBest_gt (fun i=>c.getD i 0) (y.toArray.size-1)
  rw[List.size_toArray,g]at h1 h2 hn
  rw[List.size_toArray,g]
  refine⟨.int _,_,I2.kept (t':=tk) (k _ _ hk),⟨t,rfl⟩,q _ (.inr ⟨?_,fun a ha=>?_⟩)⟩
  ·have f:argBest (fun i j=>decide (c.getD i 0>c.getD j 0)) (c.length-1)<c.length:=by omega
   rw[List.getD_eq_getElem?_getD,List.getElem?_eq_getElem f]
   exact List.getElem_mem f
  ·obtain⟨j,hj,rfl⟩:=List.getElem_of_mem ha
   have:=h2 j (by omega)
   rw[List.getD_eq_getElem?_getD (i:=j),List.getElem?_eq_getElem hj]at this
   exact this
def Zid(K:PySem.W.Frag)(d:Int)(ta:TE):TE:=fun σ H Q=>ta σ H fun x H1=>∃p,∃ns,x= .ref p/\SqT K H1 p (ns.map V.int)/\∀M,((ns=[]/\M=d)\/(M∈ns/\∀a∈ns,M<=a))->Q (.int M) H1
theorem boot_min:bootBuiltins "min"=some (.builtin "min"):=by decide+kernel
theorem Zfy{X}{a ed}{ta}{d}{p pos kpos}(hc:X.calm=true)(ha:PE X a ta)(hd:PE X ed (tC (.int d)))(hg:Gl X "min":=by rfl)(hm:X.mg "min"=none:=by rfl)(hs:starEach [a] X.env=[(false,eval a X.env)]:=by rfl):
  PE X (.Call (.Name "min" p) [a] [⟨some "default",ed,kpos⟩] pos) (Zid X.K d ta):=by
 refine fun pins s σ H Q I h=>wpAny_Call_Name_kw (Yy I hg hm boot_min (callWith_kw (thn ((JV ha Za hs) _ _ s σ H (ZbF fun x z=>∃p,∃c:List _,x= .ref p/\SqT _ z p _/\∀M,((c=[]/\M=d)\/(M∈c/\∀a∈c,M<=a))->Q _ z) I h) fun us s1 xq1=>?_) (by rw[hs];rfl) (by rw[hs];rfl)))
 obtain⟨w,z,I1,r1,q1⟩:=xq1
 obtain⟨x1,rfl,q1⟩:=Jr q1
 obtain⟨u1,rfl,ru⟩:=vals1 r1
 obtain⟨l,c,rfl,hp,q⟩:=q1
 cases ru
 refine wpAny_evalAll_cons (wpAny_bind (thn (hd _ s1 σ z (fun v H2=>v= .int d/\H2=z) I1 ⟨rfl,rfl⟩) fun ud D⟨v2,H2,C,r2,e1,m⟩=>wpAny_bind (wpAny_standAt (wpAny_pure (wpAny_evalAll_nil ?_)))))
 subst e1 m
 obtain⟨td,rfl⟩:=r2
 obtain⟨w,rv,pl,hz⟩:=C.tuple hp
 have hl:=pl
 have g:l<D.heap.objs.size:=by obtain⟨_,e,_⟩:=hl;exact Heap.lt_size e
 have f:w.length=c.length:=by have:=rv.length;simpa using this.symm
 have n:∀i v,w.toArray[i]?=some v->∃t,v=Value.int (c.getD i 0) t:=by
  intro i v e
  have e':w[i]?=some v:=by simpa using e
  have hi:i<c.length:=by grind
  obtain⟨u,m,r2⟩:=rv.get (i:=i) (x:= .int c[i]) (by simp_all)
  rw[e']at m
  cases m
  obtain⟨t,rfl⟩:=r2
  exact⟨t,by simp_all⟩
 have r:∀(it:Obj)(B:Heap),(∀b o,b ∉ [D.heap.objs.size]->(D.heap.push it).get? b=some o->B.get? b=some o)->∀b o,D.heap.get? b=some o->B.get? b=some o:=fun it B y b o m=>y b o (fun hm=>by
  rw[List.mem_singleton.mp hm]at m
  exact Nat.lt_irrefl _ (Heap.lt_size m)) (Heap.get?_push_of_some _ m)
 refine ZeN (wpAny_pyIter_tuple hl ⟨_,_,_,_,_,_,_,rfl,Walks.tuple (A:=X.A.in1) (C.ok.hd hc) _ l (Nat.ne_of_lt g) w.toArray,⟨⟨_,Heap.get?_push_size _ rfl,rfl,rfl⟩,hl.push _⟩,fun b hb=>?_,CmpOf.ints_lt (fun i=>c.getD i 0) n,fun hn B tk y=>?_,fun hn v B tk hP y=>?_⟩)
 ·rw[Heap.size_push]
  simp[List.mem_cons,List.not_mem_nil,or_false]at hb
  rcases hb with rfl|rfl
  ·exact Nat.lt_succ_self _
  ·exact Nat.lt_succ_of_lt g
 ·rw[List.size_toArray,f]at hn
  exact⟨.int d,_,C.kept (t':=tk) (r _ _ y),⟨td,rfl⟩,q d (.inl ⟨List.length_eq_zero_iff.mp hn,rfl⟩)⟩
 ·obtain⟨t,rfl⟩:=n _ _ hP
  obtain⟨h1,h2⟩:=argBest_lt (fun i=>c.getD i 0) (w.toArray.size-1)
  rw[List.size_toArray,f]at h1 h2 hn
  rw[List.size_toArray,f]
  refine⟨.int _,_,C.kept (t':=tk) (r _ _ y),⟨t,rfl⟩,q _ (.inr ⟨?_,fun a ha=>?_⟩)⟩
  ·have g:argBest (fun i j=>decide (c.getD i 0<c.getD j 0)) (c.length-1)<c.length:=by omega
   rw[List.getD_eq_getElem?_getD,List.getElem?_eq_getElem g]
   exact List.getElem_mem g
  ·obtain⟨j,hj,rfl⟩:=List.getElem_of_mem ha
   have:=h2 j (by omega)
   rw[List.getD_eq_getElem?_getD (i:=j),List.getElem?_eq_getElem hj]at this
   exact this
theorem Zi0{X}{scope}{cl}{N}{bs}{tg iter elt}{ifs}{pos spos px}{x}{tl}{g gt}{tt}{te}(B:Blk X scope cl N bs)(hc:X.calm=true)
  (hl:PE X iter tl)(hm:JB tl)(hg:∀C fp s H,PG (ZA X scope cl C N fp s H) tg g) (ht:∀C fp s H,PTs (ZA X scope cl C N fp s H) ifs tt) (he:∀C fp s H,PE (ZA X scope cl C N fp s H) elt te)
  (hgt:PG X (.Name x px) gt) (hsw:swapsWith (.ListComp elt [⟨tg,iter,ifs,0⟩] scope pos) (some (.Name x px)) spos.line X.env=pure true)
  (hs:∀x,foldedSetIterable iter X.env x=pure x:=by intro _;rfl):PS X (.Assign [.Name x px] (.ListComp elt [⟨tg,iter,ifs,0⟩] scope pos) spos) (Zet (Zj0 X.K bs tl g tt te) gt):=by
 refine fun _ s σ H D I h=>@ZhN X _ cl N bs tg _ _ _ _ _ px x _ g gt tt te B hc (@Yu X _ _ _ hl) hg ht he hgt hsw hs _ s σ H D I (hm σ H _ _ (fun x c h=>?_) h)
 obtain⟨a,d,e,n,k,i,j,l,m,o⟩:=h
 exact⟨a,e,⟨d,n⟩,ZfL (Q:=fun x c=>gt x σ c D.nx) i (YI k) j l m fun f σ H q p b=>o f σ H q p _ (Zz b) Zd⟩
theorem Zd1{sp}{t}(hs:∀vs H Q Q' E,(∀v H',Q v H'->Q' v H')->sp vs H Q E->sp vs H Q' E) (h:Zah t):JB (ZbB sp [] E0 t):=fun σ H Q Q' k q=>h σ H _ _ (fun vs _ q=>hs _ _ _ _ _ k q) q
theorem Zhh{X}{K}(hK:X.K=K):IxR X (Zfr K):=by
 subst hK
 exact Zo
inductive ZgM(K:PySem.W.Frag)(x:V)(vs:List V)(H:Hp)(Q:VK):Prop
 |mk (l:_) (ns:List Int) (k:_) (_:x= .ref l) (_:vs=[.int k]) (_:SqT K H l (ns.map V.int)) (_:k∈ns) (_:∀j:Nat,ns[j]?=some k->(∀i:Nat,i<j->ns[i]?≠some k)->Q (.int j) H)
theorem Zab{k}:∀{ns:List Int},k∈ns->∃j,ns[j]?=some k/\∀i:Nat,i<j->ns[i]?≠some k
 |n::r,h=>by
  by_cases e:n=k
  ·exact⟨0,by rw[e];rfl,fun i a=>absurd a (Nat.not_lt_zero _)⟩
  ·obtain⟨j,b,_⟩:=Zab ((List.mem_cons.mp h).resolve_left fun z=>e z.symm)
   refine⟨j+1,b,fun i a=>?_⟩
   cases i with
   |zero=>grind
   |_ i=>simp_all
theorem ZbI{X}:MtM X "tuple.index" (ZgM X.K):=by
 intro _ s σ H x vs v us Q I rx w h
 obtain⟨l,ns,k,rfl,rfl,A,hk,q⟩:=h
 cases rx
 obtain⟨u,rfl,p⟩:=w.one
 obtain⟨t,rfl⟩:=p
 obtain⟨_,r,pl,hz'⟩:=I.tuple A
 have d:=Zcn r
 have e:=r.length
 rw[List.length_map]at e
 obtain⟨j,m,o⟩:=Zab hk
 obtain⟨hj,b⟩:=List.getElem?_eq_some_iff.mp m
 obtain⟨⟨_,dd,_,B⟩,f,hc,n,hd⟩:=pl
 subst hc hd
 refine call_meets PySem.F.slot_tuple_index ⟨_,f,rfl⟩ PySem.F.entry_tuple_index (PySem.F.args_tuple_index_2 _ _) (PySem.SeqAt.tuple_indexAt l _ n dd B _ _ j (by grind) ?_ ?_) ⟨f,fun y hy=>(eq_isInt k t d y (by simpa using hy)).at _ _,⟨.int j,H,I.tok _,⟨_,rfl⟩,q j m o⟩⟩
 ·rw[List.getElem_toArray,isInt_at k d j (by omega) hj,b]
  exact beq_self_eq_true _
 ·intro i g c
  rw[List.size_toArray]at g
  rw[List.getElem_toArray,isInt_at k d i g (by omega)]
  refine Bool.eq_false_iff.mpr fun z=>o i c ?_
  rw[List.getElem?_eq_getElem (by omega),eq_of_beq z]
theorem FnOk.or{P}{w}{K}{mg}{base}{CX}{k:Nat}{f:Addr}{fd:FuncData}{ps:List _}{sp sp':Sp}(a:FnOk P w K mg base CX k f fd ps sp)(b:FnOk P w K mg base CX k f fd ps sp'):
  FnOk P w K mg base CX k f fd ps (fun vs H Q E=>sp vs H Q E\/sp' vs H Q E):=
 ⟨fun vs H Q E h=>h.elim (a.len vs H Q E) (b.len vs H Q E),fun A c s H d j vs Q E g i e l h=>h.elim (a.run A c s H d j vs Q E g i e l) (b.run A c s H d j vs Q E g i e l)⟩
end L2
namespace My
def InP(tl:List (Option Nat))(u v k:Nat):Prop:=tl[k]?=some (some u)\/tl[k]?=some (some v)
inductive RP(es:List (Nat×Nat))(tl:List (Option Nat))(u v p:Nat):Nat->Prop
 |start:RP es tl u v p p
 |step {x y k:Nat}:RP es tl u v p x->k<es.length->InP tl u v k->At (es.getD k (0,0)) x->At (es.getD k (0,0)) y->RP es tl u v p y
def RT(es:List (Nat×Nat))(tl:List (Option Nat))(u v p k:Nat):Prop:=k<es.length/\InP tl u v k/\∃x,RP es tl u v p x/\At (es.getD k (0,0)) x
theorem InP.comm{tl:List (Option Nat)}{u v k:Nat}:InP tl u v k↔InP tl v u k:=⟨Or.symm,Or.symm⟩
theorem RP.comm{es:List (Nat×Nat)}{tl:List (Option Nat)}{u v p x:Nat}(h:RP es tl u v p x):RP es tl v u p x:=by
 induction h with
 |start=>exact .start
 |step _ h1 h2 h3 h4 ih=>exact .step ih h1 (InP.comm.mp h2) h3 h4
theorem RT.comm{es:List (Nat×Nat)}{tl:List (Option Nat)}{u v p k:Nat}:RT es tl u v p k↔RT es tl v u p k:=
 ⟨fun⟨a,b,x,c,d⟩=>⟨a,InP.comm.mp b,x,c.comm,d⟩,fun⟨a,b,x,c,d⟩=>⟨a,InP.comm.mp b,x,c.comm,d⟩⟩
theorem RT.end{es:List (Nat×Nat)}{tl:List (Option Nat)}{u v p k y:Nat}(h:RT es tl u v p k)(hy:At (es.getD k (0,0)) y):RP es tl u v p y:=let⟨a,b,x,c,d⟩:=h;.step c a b d hy
structure Walk(es:List (Nat×Nat))(tl:List (Option Nat))(u v p:Nat)(F:Nat->Prop)(V W:Nat->Prop):Prop where
 rt:∀k,F k->RT es tl u v p k
 rw:∀x,W x->RP es tl u v p x
 cl:∀x,V x->∀k,k<es.length->InP tl u v k->At (es.getD k (0,0)) x->F k
 en:∀k,F k->∀x,At (es.getD k (0,0)) x->V x\/W x
 st:V p\/W p
theorem Walk.done{es:List (Nat×Nat)}{tl:List (Option Nat)}{u v p:Nat}{F V W:Nat->Prop}(h:Walk es tl u v p F V W)(hW:∀x,¬W x):∀k,F k↔RT es tl u v p k:=by
 have hV:∀x,RP es tl u v p x->V x:=fun x hx=>by
  induction hx with
  |start=>exact h.st.resolve_right (hW _)
  |step _ h1 h2 h3 h4 ih=>exact(h.en _ (h.cl _ ih _ h1 h2 h3) _ h4).resolve_right (hW _)
 exact fun k=>⟨h.rt k,fun⟨a,b,x,c,d⟩=>h.cl x (hV x c) k a b d⟩
theorem ZaQ:∀{a b:List Nat},a.Pairwise (·<·)->b.Pairwise (·<·)->(∀x,x∈a↔x∈b)->a=b
 |[],[],_,_,_=>rfl
 |[],y::b,_,_,h=>by have:=(h y).mpr (.head _);cases this
 |x::a,[],_,_,h=>by have:=(h x).mp (.head _);cases this
 |x::a,y::b,ha,hb,h=>by
  have ha':=List.pairwise_cons.mp ha
  have hb':=List.pairwise_cons.mp hb
  have e:x=y:=by
   have h1:=(h x).mp (.head _)
   have h2:=(h y).mpr (.head _)
   rcases List.mem_cons.mp h1 with z|z
   ·exact z
   ·rcases List.mem_cons.mp h2 with z2|z2
    ·exact z2.symm
    ·have:=hb'.1 x z
     have:=ha'.1 y z2
     omega
  subst e
  congr 1
  refine ZaQ ha'.2 hb'.2 fun z=>?_
  constructor
  ·intro hz
   rcases List.mem_cons.mp ((h z).mp (.tail _ hz))with q|q
   ·subst q;exact absurd (ha'.1 z hz) (Nat.lt_irrefl _)
   ·exact q
  ·intro hz
   rcases List.mem_cons.mp ((h z).mpr (.tail _ hz))with q|q
   ·subst q;exact absurd (hb'.1 z hz) (Nat.lt_irrefl _)
   ·exact q
def deg(es:List (Nat×Nat)):List Nat->Nat->Nat
 |[],_=>0
 |k::l,x=>(if(es.getD k (0,0)).1=x then 1 else 0)+(if(es.getD k (0,0)).2=x then 1 else 0)+deg es l x
def Zu(f:Nat->Nat):List Nat->Nat
 |[]=>0
 |x::l=>f x+Zu f l
theorem YG(f g:Nat->Nat):∀l,Zu (fun x=>f x+g x) l=Zu f l+Zu g l
 |[]=>rfl
 |x::l=>by show f x+g x+Zu _ l=f x+Zu f l+(g x+Zu g l);rw[YG f g l];omega
theorem YF{y:Nat}:∀{l:List Nat},l.Nodup->y∈l->Zu (fun x=>if y=x then 1 else 0) l=1
 |x::l,nd,h=>by
  have nd':=List.nodup_cons.mp nd
  show(if y=x then 1 else 0)+Zu _ l=1
  rcases List.mem_cons.mp h with e|e
  ·subst e
   rw[if_pos rfl]
   have:∀l:List Nat,y ∉ l->Zu (fun x=>if y=x then 1 else 0) l=0:=by
    intro l
    induction l with
    |nil=>intro _;rfl
    |cons z l ih=>
     intro hn
     show(if y=z then 1 else 0)+Zu _ l=0
     rw[if_neg (fun q=>hn (by rw[q];exact .head _)),ih fun q=>hn (.tail _ q)]
   rw[this l nd'.1]
  ·rw[if_neg (fun q=>nd'.1 (by rw[<-q];exact e)),YF nd'.2 e]
theorem Zcb{es:List (Nat×Nat)}{pts:List Nat}(nd:pts.Nodup):∀{l:List Nat},(∀k∈l,(es.getD k (0,0)).1∈pts/\(es.getD k (0,0)).2∈pts)->Zu (deg es l) pts=2*l.length
 |[],_=>by
  have:∀l:List Nat,Zu (deg es []) l=0:=by
   intro l
   induction l with
   |nil=>rfl
   |cons x l ih=>show 0+Zu _ l=0;rw[ih]
  rw[this];rfl
 |k::l,h=>by
  obtain⟨h1,h2⟩:=h k (.head _)
  have e:Zu (deg es (k::l)) pts=Zu (fun x=>(if(es.getD k (0,0)).1=x then 1 else 0)+(if(es.getD k (0,0)).2=x then 1 else 0)) pts+Zu (deg es l) pts:=YG (fun x=>(if(es.getD k (0,0)).1=x then 1 else 0)+(if(es.getD k (0,0)).2=x then 1 else 0)) (deg es l) pts
  rw[e,YG,YF nd h1,YF nd h2,Zcb nd fun j hj=>h j (.tail _ hj),List.length_cons]
  omega
def draw(ns:List Int)(k:Int):Int:=
 let cell:Int:=if ns.length>0 then ns.getD (k%(ns.length:Int)).toNat 0%2147483629+k/(ns.length:Int)*5381+1 else 3*k+1
 let c2:=(cell*69621+k*k*40692+7)%2147483647
 c2*c2%2147483587
theorem Zec(ns:List Int)(k:Int):0<=draw ns k:=Int.emod_nonneg _ (by decide)
theorem ZdN{a d p:Int}(h0:0<=a)(h1:a<p)(h2:1<=d)(h3:d<p):(a+d)%p≠a:=by
 by_cases h:a+d<p
 ·rw[Int.emod_eq_of_lt (by omega) h];omega
 ·have e:(a+d)%p=a+d-p:=by
   have e1:(a+d-p)%p=(a+d)%p:=by rw[Int.sub_emod_right]
   rw[<-e1]
   exact Int.emod_eq_of_lt (by omega) (by omega)
  rw[e];omega
theorem next_ne{n p:Int}(h:2<=p):(n+1)%p≠n%p:=by
 have h1:=ZdN (a:=n%p) (d:=1) (p:=p) (Int.emod_nonneg _ (by omega)) (Int.emod_lt_of_pos _ (by omega)) (by omega) (by omega)
 rw[Int.emod_add_emod]at h1
 exact h1
theorem Yh{n p:Int}(h:0<p):0<=n%p:=Int.emod_nonneg _ (by omega)
theorem Yn{n p:Int}(h:0<p):n%p<p:=Int.emod_lt_of_pos _ h
theorem Zdu{n:Nat}{ns:List Int}(h:ns.Perm ((List.range n).map fun i:Nat=>(i:Int))):ns.length=n/\(∀x∈ns,0<=x/\x<n)/\ns.Nodup:=by
 refine⟨by rw[h.length_eq];simp,fun x hx=>?_,?_⟩
 ·have:=h.mem_iff.mp hx
  obtain⟨i,hi,rfl⟩:=List.mem_map.mp this
  have:=List.mem_range.mp hi
  omega
 ·refine h.nodup_iff.mpr ?_
  rw[List.nodup_iff_pairwise_ne,List.pairwise_map]
  refine List.Pairwise.imp (fun{a b} q z=>q (Int.ofNat_inj.mp z)) (List.nodup_iff_pairwise_ne.mp (List.nodup_range (n:=n)))
theorem Zd0{ns:List Int}(h:ns.Nodup){i j:Nat}(hi:i<ns.length)(hj:j<ns.length)(hij:i≠j):ns[i]≠ns[j]:=by
 intro e
 exact hij ((List.getElem_inj h).mp e)
end My
namespace My
open PySem L2
def top(i:Nat):Stmt:=PySem.Challenge.pw_tintties_k54_evened_and_rounds_refused.main.body.getD i (.Pass ⟨0,0,0,0⟩)
def Dr(ns:List Int):Prop:=ns.length<=63
section
variable{P:Program}{w:World}{K:PySem.W.Frag}{mg:Str->Option Value}{base:Heap}
abbrev Zfo:Stmt:=top 66
inductive JD(K:PySem.W.Frag)(vs:List V)(H:Hp)(Q:VK)(_z3:XK):Prop
 |mk (a ns k:_) (_:vs=[.ref a,.int k]) (_:SqL K H a (ns.map V.int)) (_:Dr ns) (_:0<=k) (_:k<=1000000) (_:Q (.int (draw ns k)) H)
theorem scDraw:Zr ["_law_script","_law_k","_law_cell"] ["_law_script","_law_k"] (Zh Zfo):=⟨rfl,rfl,rfl,by decide+kernel,rfl,by decide+kernel,by decide+kernel⟩
theorem ZgW{f}{fd}(F:Fun K "_law_draw" "_law_draw" Zfo f fd)(T:Bi mg):FnOk P w K mg base CX0 1 f fd ["_law_script","_law_k"] (JD K):=by
 refine F.ok scDraw (fun vs H Q E h=>?_) (fun cdv A outer s H vs Q E hr h=>?_)
 ·obtain⟨a,d,k,rfl,_⟩:=h
  rfl
 ·obtain⟨a,d,k,rfl,hS,hd,k0,k1,q⟩:=h
  have hl:d.length<=63:=hd
  refine⟨_,Zb (Zj (i:=2) scDraw.nd rfl (Or.inl rfl) (Zp Z4 (Zp Yv Ze (pv 1)) Ze))
   (Zb (Z0 (Zm Zf8 (Zn Zx (by rfl) T.len YD (Zc (pv 0) Za)) Ze (Zv _))
    (Zg (Zj (i:=2) scDraw.nd rfl (Or.inl rfl) (Zp Z4 (Zp Z4 (Zp ZG (Zl Z6 (pv 0) (Zp ZG (pv 1) (Zn Zx (by rfl) T.len YD (Zc (pv 0) Za))) (fun _ _=>rfl)) Ze)
     (Zp Yv (Zp JW (pv 1) (Zn Zx (by rfl) T.len YD (Zc (pv 0) Za))) Ze)) Ze))) Zt)
   (Zb (Zj (i:=2) scDraw.nd rfl (Or.inl rfl) (Zp ZG (Zp Z4 (Zp Z4 (Zp Yv (pv 2) Ze) (Zp Yv (Zp Yv (pv 1) (pv 1)) Ze)) Ze) Ze))
   (Zg (Zs (Zp ZG (Zp Yv (pv 2) (pv 2)) Ze))))),?_⟩
  refine⟨_,rfl,_,_,rfl,rfl,.inl ⟨by decide,by decide⟩,_,_,rfl,rfl,_,rfl,a,_,rfl,.inl hS,_,_,rfl,rfl,_,rfl,?_⟩
  have last:∀c:Int,c=(if d.length>0 then d.getD (k%d.length).toNat 0%2147483629+k/d.length*5381+1 else 3*k+1)->
    (Zjt (Zet (tOp (rI (fun _ j=>0<j) fun i j=> .int (i%j)) (tOp (rI0 fun i j=> .int (i+j)) (tOp (rI0 fun i j=> .int (i+j)) (tOp (rI CMul fun i j=> .int (i*j)) (Ja 2) (tC (.int 69621))) (tOp (rI CMul fun i j=> .int (i*j)) (tOp (rI CMul fun i j=> .int (i*j)) (Ja 1) (Ja 1)) (tC (.int 40692)))) (tC (.int 7))) (tC (.int 2147483647))) (JY 2))
     (Zju (tOp (rI (fun _ j=>0<j) fun i j=> .int (i%j)) (tOp (rI CMul fun i j=> .int (i*j)) (Ja 2) (Ja 2)) (tC (.int 2147483587))))) {nx:=fun _ H'=>Q .non H',rt:=Q} [some (.ref a),some (.int k),some (.int c)] H:=by
   refine fun c hc=>⟨_,rfl,_,_,rfl,rfl,.inr ⟨by decide,by decide⟩,_,rfl,_,rfl,_,_,rfl,rfl,.inl ⟨by omega,by omega⟩,_,_,rfl,rfl,.inr ⟨by decide,by decide⟩,_,_,rfl,rfl,_,_,rfl,rfl,_,_,rfl,rfl,(by show 0<2147483647;decide),_,rfl,_,rfl,_,_,rfl,rfl,.inl ⟨by omega,by omega⟩,_,_,rfl,rfl,(by show 0<2147483587;decide),?_⟩
   have e:(c*69621+k*k*40692+7)%2147483647*((c*69621+k*k*40692+7)%2147483647)%2147483587=draw d k:=by
    rw[hc];rfl
   show Q (.int _) H
   rw[e]
   exact q
  refine ZF (fun hc=>?_) (fun hc=>?_)
  ·have hp:0<d.length:=by
    have:=of_decide_eq_true hc
    rw[List.length_map]at this
    omega
   have hp':(0:Int)<((d.map V.int).length:Int):=by rw[List.length_map];omega
   have m1:=Yh (n:=k) hp'
   have m2:=Yn (n:=k) hp'
   rw[List.length_map]at m2
   have ix:L2.atI (d.map V.int) (k%((d.map V.int).length:Int))=some (V.int (d.getD (k%(d.length:Int)).toNat 0)):=by
    have e0:k%((d.map V.int).length:Int)=(((k%(d.length:Int)).toNat:Nat):Int):=by
     rw[List.length_map]at m1⊢
     omega
    rw[e0]
    refine Z3 ?_
    have hlt:(k%(d.length:Int)).toNat<d.length:=by
     rw[List.length_map]at m1
     omega
    rw[List.getElem?_map,List.getD_eq_getElem?_getD,List.getElem?_eq_getElem hlt]
    rfl
   refine⟨_,rfl,_,rfl,_,rfl,a,_,rfl,.inl hS,_,_,rfl,rfl,hp',a,_,_,_,rfl,rfl,hS,ix,_,_,rfl,rfl,(by show(0:Int)<2147483629;decide),_,rfl,_,rfl,a,_,rfl,.inl hS,_,_,rfl,rfl,⟨hp',by rw[List.length_map];omega⟩,_,_,rfl,rfl,.inr ⟨by decide,by decide⟩,_,_,rfl,rfl,_,_,rfl,rfl,last _ ?_⟩
   rw[if_pos hp,List.length_map]
  ·have hp:¬d.length>0:=by
    refine fun z=>hc (decide_eq_true ?_)
    rw[List.length_map]
    omega
   refine last _ ?_
   rw[if_neg hp]
abbrev Zfn:Stmt:=top 67
inductive spPair(vs:List V)(H:Hp)(Q:VK)(_z3:XK):Prop
 |mk (n p wy hf:_) (_:vs=[.int n,.int p,.int wy,.int hf]) (_:0<=n) (_:2<=p) (_:p<=1000) (_:1<=hf) (_:hf<p) (_:∀(i j)(a),0<=i->i<p->0<=j->j<p->i≠j->H a=none->Q (.ref a) (upd H a (.tup [.int i,.int j])))
theorem scPair:Zr ["_law_number","_law_points","_law_way","_law_half","_law_one"] ["_law_number","_law_points","_law_way","_law_half"] (Zh Zfn):=⟨rfl,rfl,rfl,by decide+kernel,rfl,by decide+kernel,by decide+kernel⟩
theorem ZgV{f}{fd}(F:Fun K "_law_pair" "_law_pair" Zfn f fd):FnOk P w K mg base CX0 1 f fd ["_law_number","_law_points","_law_way","_law_half"] spPair:=by
 refine F.ok scPair (fun m H Q E h=>?_) (fun _ A _ s H m Q E _ h=>?_)
 ·obtain⟨n,p,o,g,rfl,_⟩:=h
  rfl
 ·obtain⟨n,p,o,g,rfl,_,l,_,_,_,q⟩:=h
  refine⟨_,Zb (Z0 (Zm ZI (pv 2) Ze (Zv _)) (Zg (Zs (JF (Zc (Zp ZG (pv 0) (pv 3)) (Zc (Zp Z4 (pv 3) (Zp ZG (Zp JW (pv 0) Ze) (Zp Jq (pv 1) (pv 3)))) Za))))) Zt)
   (Zb (Z0 (Zm ZI (pv 2) Ze (Zv _)) (Zg (Zs (JF (Zc (Zp ZG (pv 0) (pv 1)) (Zc (Zp ZG (Zp Z4 (pv 0) Ze) (pv 1)) Za))))) Zt)
   (Zb (Z0 (Zm ZI (pv 2) Ze (Zv _)) (Zg (Zs (JF (Zc Ze (Zc (Zp Z4 Ze (Zp ZG (pv 0) (Zp Jq (pv 1) Ze))) Za))))) Zt)
   (Zb (Zj (i:=4) scPair.nd rfl (Or.inl rfl) (Zp ZG (pv 0) (pv 1)))
   (Zg (Zs (JF (Zc (pv 4) (Zc (Zp ZG (Zp Z4 (Zp Z4 (pv 4) Ze) (Zp ZG (Zp JW (pv 0) Ze) (Zp Jq (pv 1) Ze))) (pv 1)) Za)))))))),_,rfl,rfl,_,rfl,ZF (fun _=>?_) (fun _=>?_)⟩
  ·refine⟨_,rfl,_,rfl,_,_,rfl,rfl,(by omega),_,rfl,_,rfl,_,_,rfl,rfl,⟨by decide,by decide⟩,_,rfl,_,rfl,_,_,rfl,rfl,_,_,rfl,rfl,(by show 0<p-g;omega),_,_,rfl,rfl,(by show 2<=sizeLine;decide),fun a b=>?_⟩
   have c:=Yh (n:=n) (p:=g) (by omega)
   have e:=Yn (n:=n) (p:=g) (by omega)
   have k:=Yh (n:=n/64) (p:=p-g) (by omega)
   have j:=Yn (n:=n/64) (p:=p-g) (by omega)
   exact q _ _ a (by omega) (by omega) (by omega) (by omega) (by omega) b
  refine⟨_,rfl,rfl,_,rfl,ZF (fun _=>?_) (fun _=>?_)⟩
  ·refine⟨_,rfl,_,rfl,_,_,rfl,rfl,(by show 0<p;omega),_,rfl,_,_,rfl,rfl,_,rfl,_,_,rfl,rfl,(by show 0<p;omega),(by show 2<=sizeLine;decide),fun a b=>?_⟩
   have c:=Yh (n:=n) (p:=p) (by omega)
   have e:=Yn (n:=n) (p:=p) (by omega)
   have k:=Yh (n:=n+1) (p:=p) (by omega)
   have j:=Yn (n:=n+1) (p:=p) (by omega)
   exact q _ _ a c e k j (fun z=>next_ne l z.symm) b
  refine⟨_,rfl,rfl,_,rfl,ZF (fun _=>?_) (fun _=>?_)⟩
  ·refine⟨_,rfl,_,rfl,_,_,rfl,rfl,_,_,rfl,rfl,(by show 0<p-1;omega),_,_,rfl,rfl,(by show 2<=sizeLine;decide),fun a b=>?_⟩
   have c:=Yh (n:=n) (p:=p-1) (by omega)
   have e:=Yn (n:=n) (p:=p-1) (by omega)
   exact q _ _ a (by omega) (by omega) (by omega) (by omega) (by omega) b
  refine⟨_,rfl,_,rfl,_,_,rfl,rfl,(by show 0<p;omega),_,rfl,_,rfl,_,_,rfl,rfl,_,rfl,_,_,rfl,rfl,⟨by decide,by decide⟩,_,rfl,_,_,rfl,rfl,_,_,rfl,rfl,(by show 0<p-1;omega),_,_,rfl,rfl,_,rfl,_,_,rfl,rfl,(by show 0<p;omega),(by show 2<=sizeLine;decide),fun a b=>?_⟩
  have c:=Yh (n:=n) (p:=p) (by omega)
  have e:=Yn (n:=n) (p:=p) (by omega)
  have k:=Yh (n:=n/64) (p:=p-1) (by omega)
  have j:=Yn (n:=n/64) (p:=p-1) (by omega)
  refine q _ _ a c e (Yh (by omega)) (Yn (by omega)) (fun z=>(ZdN (a:=n%p) (d:=1+n/64%(p-1)) (p:=p) c e (by omega) (by omega) ?_)) b
  rw[<-Int.add_assoc]
  exact z.symm
end
end My
namespace L2
open PySem PySem.Spec PyProof.Rows
structure FunC(K:PySem.W.Frag)(x qual:Str)(st:Stmt)(f:Addr)(fd:FuncData)(c:Addr):Prop where
 ex:∃(oc:Value)(od:Option Addr)(kV doc pm:Value)(an:Option Addr)(ct:Value)(osl:Array (Option Value)),
  fd=PySem.W.fnOf x qual (J8 st) (ZK st) (Zh st) .none kV doc pm an (.ref c) ct/\K.lookup f=some ⟨oc,od,.func fd,osl⟩/\PySem.W.codeIn K (.ref c) qual=true
section
variable{P:Program}{w:World}{K:PySem.W.Frag}{mg:Str->Option Value}{base:Heap}
theorem FunC.ok{x qual}{st}{f c}{fd}{N ps:List _}{k}{sp:Sp}(F:FunC K x qual st f fd c)(S:Zr N ps (Zh st))(len:∀vs H Q E,sp vs H Q E->vs.length=ps.length)
  (hbody:∀(A:Around)(outer:List _)(s:Shared)(H:Hp)(vs:List V)(Q:VK)(E:XK),Room k (A.deeper (envOfC qual (Zh st) s.heap.objs.size f (.ref c)))->sp vs H Q E->
   ∃t,PSs (Yk CX0 P w K mg base N qual (Zh st) f (.ref c) A outer s H E).nox (ZK st) t/\t {nx:=fun _ H'=>Q .non H',rt:=Q} (start N vs) H):FnOk P w K mg base CX0 (k+1) f fd ps sp:=by
 obtain⟨_,_,kV,_,_,_,_,_,rfl,d,a⟩:=F.ex
 refine ZcR d a S len fun A outer s H vs Q E e b=>?_
 obtain⟨t,h,q⟩:=hbody A _ s H vs Q E e b
 exact⟨t,h.nox,q⟩
end
theorem Gr.none{P}{pos}{qual}{H H'}(g:Gr P pos qual H H'){d}(h:H' d=Option.none):H d=Option.none:=by
 cases q:H d with
 |none=>rfl
 |_ o=>
  by_cases a:d=P
  ·subst a
   rcases g.tab with t|⟨_,t,_⟩
   ·grind
   ·grind
  ·rw[g.keep d o q a]at h;cases h
theorem Gr.new{P}{pos}{qual}{H H'}(g:Gr P pos qual H H'){d:Addr}{o:HO}(h:H' d=Option.none):Gr P pos qual H (upd H' d o):=g.same (Zi h)
theorem Gr.lst{P}{pos}{qual}{H H'}(g:Gr P pos qual H H'){d:Addr}{xs ys:List V}(h:H' d=some (.lst xs))(hn:H d=Option.none):Gr P pos qual H (upd H' d (.lst ys)):=by
 refine⟨fun b o e n=>by rw[Zf (Zk e hn)];exact g.keep b o e n,?_⟩
 rcases g.tab with t|⟨a,t,u⟩
 ·exact .inl (by rw[Zf (ZcF t h fun z=>nomatch z)];exact t)
 ·exact .inr ⟨a,by rw[Zf (ZcF t h fun z=>nomatch z)];exact t,by rw[Zf (ZcF u h fun z=>nomatch z)];exact u⟩
def Tk(H H':Hp):Prop:=∀q xs,H q=some (.tup xs)->H' q=some (.tup xs)
theorem Tk.trans{H H1 H2:Hp}(a:Tk H H1)(b:Tk H1 H2):Tk H H2:=fun q xs e=>b q xs (a q xs e)
theorem Same.tk{H H'}(s:Same H H'):Tk H H':=fun q _ e=>s q _ e
theorem Gr.tk{P:Addr}{pos:Pos}{qual:Str}{H H':Hp}(g:Gr P pos qual H H')(t:TabI P pos qual H):Tk H H':=fun q xs e=>g.keep q _ e fun z=>by
 subst z
 rcases t with t|⟨c',t,_⟩
 ·rw[e]at t;cases t
 ·rw[e]at t;cases t
theorem Zib{H}{d}{xs ys}(h:H d=some (.lst xs)):Tk H (upd H d (.lst ys)):=fun q _ e=>by rw[Zf (ZcF e h fun z=>nomatch z)];exact e
def ZkC:Stmt->Expr
 | .Assign _ (.Call _ _ [⟨_,e,_⟩] _) _=>e
 |_=> .Constant .none 0 ⟨0,0,0,0⟩
def ZcN:Expr->Scope
 | .Lambda _ _ s _=>s
 |_=>{kind:= .function,names:=[],isGenerator:=false,isCoroutine:=false}
def Zhg:Expr->Arguments
 | .Lambda a _ _ _=>a
 |_=>{posonlyargs:=[],args:=[],vararg:=none,kwonlyargs:=[],kw_defaults:=[],kwarg:=none,defaults:=[]}
end L2
namespace My
open PySem L2
theorem Zhv{ts}{r}{t}(h:t∈Y5 ts (some r) none++Y5 ts none (some r)):t∈ts:=by
 unfold Y5 at h
 grind
theorem Zhw(ts)(r)(h:0<=r):(Y5 ts (some r) none++Y5 ts none (some r)).length=ts.length:=by
 obtain⟨k,rfl⟩:∃k:Nat,r=k:=⟨r.toNat,by omega⟩
 unfold Y5
 rw[HT.sIx_nat,HT.sIx_nat,HT.sIx_none,HT.sIx_none]
 grind
theorem TieOk.tk{H H'}{n}{t}(h:TieOk H n t)(k:Tk H H'):TieOk H' n t:=let⟨q,i,j,a,b,c⟩:=h;⟨q,i,j,a,k _ _ b,c⟩
theorem Ties.tk{H H'}{n}{ts}(h:Ties H n ts)(k:Tk H H'):Ties H' n ts:=fun t a=>(h t a).tk k
section
variable{P:Program}{w:World}{K:PySem.W.Frag}{mg:Str->Option Value}{base:Heap}{Pt c:Addr}
abbrev Zc6:Stmt:=top 68
abbrev ZiS:Expr:=ZkC ((ZK Zc6).getD 1 (.Pass ⟨0,0,0,0⟩))
abbrev lpos:Pos:=⟨318,54,318,121⟩
abbrev JA:Str:="_law_ties.<locals>.<lambda>"
abbrev ZhR:List Str:=["_law_script","_law_at","_law_points","_law_many","_law_way","_law_half","_law_names","_law_ties_here","_law_k","_law_number","_law_one","_law_other","_law_turn"]
inductive Zfi(K:PySem.W.Frag)(Pt:Addr)(vs:List V)(H:Hp)(Q:VK)(_z3:XK):Prop
 |mk (a ns at' p m wy:_) (_:vs=[.ref a,.int at',.int p,.int m,.int wy]) (_:SqL K H a (ns.map V.int)) (_:Dr ns) (_:0<=at') (_:at'<=100) (_:2<=p) (_:p<=60) (_:0<=m) (_:m<=69) (_:TabI Pt lpos JA H) (_:∀(H')(t)(ts),Gr Pt lpos JA H H'->H' t=some (.tup ts)->ts.length=m->Ties H' p ts->Q (.ref t) H')
theorem scTies:Zr ZhR ["_law_script","_law_at","_law_points","_law_many","_law_way"] (Zh Zc6):=⟨rfl,rfl,rfl,by decide+kernel,rfl,by decide+kernel,by decide+kernel⟩
theorem ZlT:Lam "_law_point" ["_law_script","_law_at"] (Zhg ZiS) (ZcN ZiS):=
 ⟨rfl,rfl,rfl,by decide+kernel,rfl,fun _ _ _ _ _ _ _ _=>rfl,by decide+kernel⟩
theorem Zma{f}{A}{outer}{s}{H}{E}:
  Blk (Yk CX0 P w K mg base ZhR "_law_ties" (Zh Zc6) f (.ref c) A outer s H E).nox (ZcN ZiS) [("_law_script",s.heap.objs.size+1),("_law_at",s.heap.objs.size+2)] ["_law_script","_law_at"] [some 0,some 1]:=by
 refine⟨rfl,rfl,by decide+kernel,by decide+kernel,fun p h=>?_,fun y i e=>?_,⟨rfl,rfl,rfl⟩,⟨rfl,rfl,rfl⟩,trivial⟩
 ·rcases List.mem_cons.mp h with rfl|h
  ·rfl
  ·rw[List.mem_singleton.mp h]
   rfl
 ·have g:y∈[((PySem.Str.ofString _),NameKind.local),(PySem.Str.ofString _,.free),(PySem.Str.ofString _,.free),(PySem.Str.ofString _,.globalImplicit)]:=i
  simp[List.mem_cons,List.not_mem_nil,or_false]at g
  rcases g with rfl|rfl|rfl|rfl
  ·cases e
  ·rfl
  ·rfl
  ·cases e
theorem ZgU{f}{fd}(F:FunC K "_law_ties" "_law_ties" Zc6 f fd c)(T:Bi mg)(hso:mg "sorted"=none)(hbm:BM mg base)(hC:PySem.W.codeHdIn K c Pt=true)
  (FD:FnE P w K mg base "_law_draw" ["_law_script","_law_k"] 1 (JD K))(FP:FnE P w K mg base "_law_pair" ["_law_number","_law_points","_law_way","_law_half"] 1 spPair):
  FnOk P w K mg base CX0 5 f fd ["_law_script","_law_at","_law_points","_law_many","_law_way"] (Zfi K Pt):=by
 refine F.ok scTies (fun vs H Q E h=>?_) (fun A outer s H vs Q E hr h=>?_)
 ·obtain⟨a,ns,at',p,m,wy,rfl,_⟩:=h
  rfl
 ·obtain⟨a,ns,at',p,m,wy,rfl,hS,hl,t0,t1,p2,p60,m0,m200,hT,q⟩:=h
  have hr1:Room 1 _:=hr.mono (by decide)
  refine⟨_,Zb (Zj (i:=5) scTies.nd rfl (Or.inl rfl) (Zp Z4 Ze (Zp ZG (Zw FD hr1 (Zc (pv 0) (Zc (pv 1) Za))) (Zp Jq (pv 2) Ze))))
   (Zb (Zj (i:=6) scTies.nd rfl (Or.inl rfl) (Zdv (k:=1) (x:="_law_point") (P:=Pt) (qual:=JA) Zma ZlT hbm rfl hC rfl rfl hr rfl hso
     (Z1 (Ji rfl) rfl T.list Zdb (Zc (Z1 Zbq rfl T.range ZdF (Zc (pv 2) Za)) Za))
     (fun f' c' A' s' H' hr'=>Zw FD hr' (Zc (pv 1) (Zc (Zp Z4 (Zp Z4 (pv 2) Ze) (pv 0)) Za)))))
   (Zb (Zj (i:=7) scTies.nd rfl (Or.inl rfl) (Yd Za))
   (Zb (ZL PassesOwn.never rfl (Yi rfl T.range (Zc (pv 3) Za)) (Zq (i:=8) scTies.nd rfl (Or.inl rfl))
    (Zb (Zj (i:=9) scTies.nd rfl (Or.inl rfl) (Zw FD hr1 (Zc (pv 0) (Zc (Zp Z4 (Zp Z4 (pv 1) Ze) (pv 8)) Za))))
    (Zb (Z0 (Zm ZI (pv 4) Ze (Zv _)) (Zg (Zj (i:=9) scTies.nd rfl (Or.inl rfl) (pv 8))) Zt)
    (Zb (Yq (Zw FP hr1 (Zc (pv 9) (Zc (pv 2) (Zc (pv 4) (Zc (pv 5) Za))))) (YB rfl (Zy (Zq (i:=10) scTies.nd rfl (Or.inl rfl)) (Zy (Zq (i:=11) scTies.nd rfl (Or.inl rfl)) Ya))))
    (Zb (Z0 (Zm ZI (Zp ZG (Zp JW (pv 9) Ze) Ze) Ze (Zv _)) (Zg (Ziz (i:=10) (j:=11) rfl scTies.nd rfl rfl (by decide) rfl rfl (Zc (pv 11) (Zc (pv 10) Za)) rfl)) Zt)
    (Zg (ZH (YT PySem.F.plainAttrs_list PySem.F.slot_list_append PySem.F.type_list_append ZX (pv 7) (Zc (JF (Zc (Zl Z6 (pv 6) (pv 10) (fun _ _=>rfl)) (Zc (Zl Z6 (pv 6) (pv 11) (fun _ _=>rfl)) Za))) Za)))))))))
   (Zb (Zj (i:=12) scTies.nd rfl (Or.inl rfl) (Zp ZG (Zw FD hr1 (Zc (pv 0) (Zc (Zp Z4 (pv 1) Ze) Za))) (Zn (ZbU rfl) rfl T.max Zjj (Zc Ze (Zc (pv 3) Za)))))
   (Zg (Zs (Z1 call_tuple_of rfl T.tuple Yl (Zc (Zp op_cat (JT Zce (pv 7) (Za6 (pv 12)) Za7) (JT Zce (pv 7) Za7 (Za6 (pv 12)))) Za)))))))),?_⟩
  have d1:=Yh (n:=draw ns at') (p:=p-1) (by omega)
  have d2:=Yn (n:=draw ns at') (p:=p-1) (by omega)
  refine⟨_,rfl,_,rfl,a,ns,at',rfl,hS,hl,t0,by omega,_,rfl,_,_,rfl,rfl,_,_,rfl,rfl,(by show(0:Int)<p-1;omega),_,_,rfl,rfl,_,rfl,_,rfl,fun pr hpr=>⟨pr,p.toNat,rfl,(by rw[Zd,show((p.toNat:Nat):Int)=p by omega]),by omega,fun l hl1=>?_⟩⟩
  have hprl:pr≠l:=fun z=>by subst z;rw[Zd]at hl1;cases hl1
  have hl0:H l=none:=by rw[Zf (Ne.symm hprl)]at hl1;exact hl1
  have sm1:Same H (upd (upd H pr (.rng 0 p)) l (.lst ((Y6 p.toNat).map V.int))):=(Zi hpr).trans (Zi hl1)
  refine⟨l,Y6 p.toNat,fun z=>draw ns (at'+1+z),[.ref a,.int at'],rfl,SqL.of Zd,(by simp[Y6];omega),hT.same sm1,rfl,fun H2 g2=>⟨fun n hn=>?_,fun D ns' hD hP hO=>?_⟩⟩
  ·obtain⟨i,hi,rfl⟩:=List.mem_map.mp hn
   have hi':=List.mem_range.mp hi
   refine⟨_,rfl,_,rfl,_,_,rfl,rfl,_,rfl,_,_,rfl,rfl,a,ns,_,rfl,g2.sqL (hT.same sm1) (sm1.seq hS),hl,by omega,by omega,rfl,rfl⟩
  obtain⟨lenN,rngN,ndN⟩:=Zdu (n:=p.toNat) hP
  have G2:Gr Pt lpos JA H H2:=⟨fun b o e n=>g2.keep b o (sm1 b o e) n,g2.tab⟩
  have hD0:H D=none:=G2.none hD
  refine⟨(by show 0<=sizeLine;decide),fun d hd=>?_⟩
  have hd2:H2 d=none:=by
   by_cases z:d=D
   ·subst z;rw[Zd]at hd;cases hd
   ·rw[Zf z]at hd;exact hd
  have hDd:D≠d:=fun z=>by subst z;rw[Zd]at hd;cases hd
  have hd0:H d=none:=G2.none hd2
  refine⟨_,rfl,m,rfl,by omega,by omega,Yz (lo:=0) (n:=m.toNat) (fun i σ H'=>∃(ts:List V)(v1 v2 v3 v4:Option V),σ=[some (.ref a),some (.int at'),some (.int p),some (.int m),some (.int wy),some (.int (1+draw ns at'%(p-1))),some (.ref D),some (.ref d),v1,v2,v3,v4,none]/\
   Gr Pt lpos JA H H'/\H' D=some (.lst (ns'.map V.int))/\H' d=some (.lst ts)/\ts.length=i/\Ties H' p ts)
   ⟨[],none,none,none,none,rfl,(G2.new hD).new hd,by rw[Zf hDd,Zd],Zd,rfl,fun t ht=>nomatch ht⟩ ?_ ?_⟩
  ·rintro i σ H3 hi ⟨ts,v1,v2,v3,v4,rfl,G3,hN,hL,hlen,hTs⟩
   have hS3:SqL K H3 a (ns.map V.int):=G3.sqL hT hS
   refine⟨_,rfl,_,rfl,_,_,rfl,rfl,_,rfl,_,_,rfl,rfl,a,ns,_,rfl,hS3,hl,by omega,by omega,?_⟩
   have nn:=Zec ns (at'+70+(0+(i:Int)))
   have nm:∀z:Int,0<=z->z<p->∃n,L2.atI (ns'.map V.int) z=some (V.int n)/\ns'[z.toNat]?=some n/\0<=n/\n<p:=fun z z0 z1=>by
    have hlt:z.toNat<ns'.length:=by rw[lenN];omega
    have e0:z=((z.toNat:Nat):Int):=by omega
    have e1:=List.getElem?_eq_getElem hlt
    obtain⟨r1,r2⟩:=rngN _ (List.getElem_mem hlt)
    refine⟨ns'[z.toNat],?_,e1,r1,by omega⟩
    have e2:=Z3 (xs:=ns'.map V.int) (j:=z.toNat) (v:=V.int ns'[z.toNat]) (by rw[List.getElem?_map,e1];rfl)
    rw[<-e0]at e2
    exact e2
   have fin:∀(H5:Hp)(e:Addr)(n1 n2:Int)(x y:Int),Gr Pt lpos JA H H5->H5 D=some (.lst (ns'.map V.int))->H5 d=some (.lst ts)->Ties H5 p ts->H5 e=none->0<=n1->n1<p->0<=n2->n2<p->n1≠n2->ns'[n1.toNat]?=some x->ns'[n2.toNat]?=some y->0<=x->x<p->0<=y->y<p->
     Gr Pt lpos JA H (upd (upd H5 e (.tup [.int x,.int y])) d (.lst (ts++[.ref e])))/\(upd (upd H5 e (.tup [.int x,.int y])) d (.lst (ts++[.ref e]))) D=some (.lst (ns'.map V.int))/\(upd (upd H5 e (.tup [.int x,.int y])) d (.lst (ts++[.ref e]))) d=some (.lst (ts++[.ref e]))/\(ts++[V.ref e]).length=i+1/\Ties (upd (upd H5 e (.tup [.int x,.int y])) d (.lst (ts++[.ref e]))) p (ts++[.ref e]):=by
    intro H5 e n1 n2 x y g5 hD5 hd5 t5 he5 a1 a2 a3 a4 a5 ex ey x0 x1 y0 y1
    have ned:d≠e:=Zk hd5 he5
    have hd6:(upd H5 e (.tup [.int x,.int y])) d=some (.lst ts):=by rw[Zf ned];exact hd5
    have nxy:x≠y:=fun z=>by
     subst z
     obtain⟨l1,e1⟩:=List.getElem?_eq_some_iff.mp ex
     obtain⟨l2,e2⟩:=List.getElem?_eq_some_iff.mp ey
     exact Zd0 ndN l1 l2 (by omega) (e1.trans e2.symm)
    refine⟨(g5.new he5).lst hd6 hd0,?_,Zd,by rw[List.length_append,hlen];rfl,?_⟩
    ·rw[Zf hDd,Zf (Zk hD5 he5)];exact hD5
    ·intro t ht
     rcases List.mem_append.mp ht with z|z
     ·exact((t5 t z).tk (Zi he5).tk).tk (Zib hd6)
     ·rw[List.mem_singleton.mp z]
      exact⟨e,x,y,rfl,by rw[Zf (Ne.symm ned),Zd],x0,x1,y0,y1,nxy⟩
   have hsz:ts.length<sizeLine:=by rw[hlen,sizeLine_eq];omega
   refine⟨_,rfl,rfl,_,rfl,ZF (fun _=>?_) (fun _=>?_)⟩
   ·refine⟨_,rfl,_,rfl,_,rfl,_,rfl,_,rfl,_,_,_,_,rfl,(by omega),p2,(by omega),(by omega),(by omega),fun i1 j1 b b1 b2 b3 b4 b5 hb=>?_⟩
    obtain⟨x1,ix1,gx1,x10,x11⟩:=nm i1 b1 b2
    obtain⟨y1,iy1,gy1,y10,y11⟩:=nm j1 b3 b4
    have hbD:D≠b:=Zk hN hb
    have hbd:d≠b:=Zk hL hb
    have hN5:(upd H3 b (.tup [.int i1,.int j1])) D=some (.lst (ns'.map V.int)):=by rw[Zf hbD];exact hN
    have hL5:(upd H3 b (.tup [.int i1,.int j1])) d=some (.lst ts):=by rw[Zf hbd];exact hL
    have hT5:Ties (upd H3 b (.tup [.int i1,.int j1])) p ts:=hTs.tk (Zi hb).tk
    refine⟨b,_,rfl,SqT.of Zd,rfl,_,_,rfl,_,_,rfl,rfl,_,rfl,_,_,rfl,rfl,⟨by decide,by decide⟩,_,_,rfl,rfl,(by show(0:Int)<2;decide),rfl,_,rfl,ZF (fun _=>?_) (fun _=>?_)⟩
    ·exact⟨_,rfl,_,rfl,_,_,rfl,_,rfl,.inl ⟨rfl,_,SqL.of hL5⟩,_,rfl,_,rfl,D,_,_,_,rfl,rfl,SqL.of hN5,iy1,_,rfl,_,rfl,D,_,_,_,rfl,rfl,SqL.of hN5,ix1,(by show 2<=sizeLine;decide),fun e he=>⟨d,_,_,rfl,rfl,(by rw[Zf (Zk hL5 he)];exact hL5),hsz,_,_,_,_,_,rfl,fin _ e j1 i1 y1 x1 (G3.new hb) hN5 hL5 hT5 he b3 b4 b1 b2 (Ne.symm b5) gy1 gx1 y10 y11 x10 x11⟩⟩
    ·exact⟨_,rfl,.inl ⟨rfl,_,SqL.of hL5⟩,_,rfl,_,rfl,D,_,_,_,rfl,rfl,SqL.of hN5,ix1,_,rfl,_,rfl,D,_,_,_,rfl,rfl,SqL.of hN5,iy1,(by show 2<=sizeLine;decide),fun e he=>⟨d,_,_,rfl,rfl,(by rw[Zf (Zk hL5 he)];exact hL5),hsz,_,_,_,_,_,rfl,fin _ e i1 j1 x1 y1 (G3.new hb) hN5 hL5 hT5 he b1 b2 b3 b4 b5 gx1 gy1 x10 x11 y10 y11⟩⟩
   ·refine⟨_,rfl,_,rfl,_,rfl,_,rfl,_,_,_,_,rfl,(by omega),p2,(by omega),(by omega),(by omega),fun i1 j1 b b1 b2 b3 b4 b5 hb=>?_⟩
    obtain⟨x1,ix1,gx1,x10,x11⟩:=nm i1 b1 b2
    obtain⟨y1,iy1,gy1,y10,y11⟩:=nm j1 b3 b4
    have hbD:D≠b:=Zk hN hb
    have hbd:d≠b:=Zk hL hb
    have hN5:(upd H3 b (.tup [.int i1,.int j1])) D=some (.lst (ns'.map V.int)):=by rw[Zf hbD];exact hN
    have hL5:(upd H3 b (.tup [.int i1,.int j1])) d=some (.lst ts):=by rw[Zf hbd];exact hL
    have hT5:Ties (upd H3 b (.tup [.int i1,.int j1])) p ts:=hTs.tk (Zi hb).tk
    refine⟨b,_,rfl,SqT.of Zd,rfl,_,_,rfl,_,_,rfl,rfl,_,rfl,_,_,rfl,rfl,⟨by decide,by decide⟩,_,_,rfl,rfl,(by show(0:Int)<2;decide),rfl,_,rfl,ZF (fun _=>?_) (fun _=>?_)⟩
    ·exact⟨_,rfl,_,rfl,_,_,rfl,_,rfl,.inl ⟨rfl,_,SqL.of hL5⟩,_,rfl,_,rfl,D,_,_,_,rfl,rfl,SqL.of hN5,iy1,_,rfl,_,rfl,D,_,_,_,rfl,rfl,SqL.of hN5,ix1,(by show 2<=sizeLine;decide),fun e he=>⟨d,_,_,rfl,rfl,(by rw[Zf (Zk hL5 he)];exact hL5),hsz,_,_,_,_,_,rfl,fin _ e j1 i1 y1 x1 (G3.new hb) hN5 hL5 hT5 he b3 b4 b1 b2 (Ne.symm b5) gy1 gx1 y10 y11 x10 x11⟩⟩
    ·exact⟨_,rfl,.inl ⟨rfl,_,SqL.of hL5⟩,_,rfl,_,rfl,D,_,_,_,rfl,rfl,SqL.of hN5,ix1,_,rfl,_,rfl,D,_,_,_,rfl,rfl,SqL.of hN5,iy1,(by show 2<=sizeLine;decide),fun e he=>⟨d,_,_,rfl,rfl,(by rw[Zf (Zk hL5 he)];exact hL5),hsz,_,_,_,_,_,rfl,fin _ e i1 j1 x1 y1 (G3.new hb) hN5 hL5 hT5 he b1 b2 b3 b4 b5 gx1 gy1 x10 x11 y10 y11⟩⟩
  ·
   rintro σ H3 ⟨ts,v1,v2,v3,v4,rfl,G3,hN,hL,hlen,hTs⟩
   have hS3:SqL K H3 a (ns.map V.int):=G3.sqL hT hS
   have mx:(0:Int)<(if m>1 then m else 1):=by split<;>omega
   refine⟨_,rfl,_,rfl,_,_,rfl,rfl,a,ns,_,rfl,hS3,hl,by omega,by omega,_,rfl,_,_,rfl,_,_,rfl,rfl,mx,?_⟩
   have r0:=Yh (n:=draw ns (at'+69)) mx
   refine⟨_,rfl,_,rfl,_,rfl,d,_,rfl,SqL.of hL,fun l1 h1=>⟨_,rfl,_,rfl,_,rfl,d,_,rfl,SqL.of (by rw[Zf (Zk hL h1)];exact hL),fun l2 h2=>?_⟩⟩
   have n12:l1≠l2:=fun z=>by subst z;rw[Zd]at h2;cases h2
   have hts:ts.length<=200:=by omega
   have c1:(Y5 ts (some (draw ns (at'+69)%(if m>1 then m else 1))) none).length<=200:=Nat.le_trans (Y3 _ _ _) hts
   have c2:(Y5 ts none (some (draw ns (at'+69)%(if m>1 then m else 1)))).length<=200:=Nat.le_trans (Y3 _ _ _) hts
   refine⟨l1,l2,_,_,rfl,rfl,(by rw[Zf n12,Zd]),Zd,(by rw[sizeLine_eq];omega),fun l3 h3=>⟨l3,_,rfl,.inl ⟨SqL.of Zd,fun l4 h4=>?_⟩⟩⟩
   have s4:Same H3 (upd (upd (upd (upd H3 l1 (.lst (Y5 ts (some (draw ns (at'+69)%(if m>1 then m else 1))) none))) l2 (.lst (Y5 ts none (some (draw ns (at'+69)%(if m>1 then m else 1)))))) l3 (.lst (Y5 ts (some (draw ns (at'+69)%(if m>1 then m else 1))) none++Y5 ts none (some (draw ns (at'+69)%(if m>1 then m else 1)))))) l4 (.tup (Y5 ts (some (draw ns (at'+69)%(if m>1 then m else 1))) none++Y5 ts none (some (draw ns (at'+69)%(if m>1 then m else 1)))))):=
    (((Zi h1).trans (Zi h2)).trans (Zi h3)).trans (Zi h4)
   refine q _ l4 _ (G3.same s4) Zd ?_ ?_
   ·rw[Zhw ts _ r0,hlen]
    omega
   ·exact Ties.tk (H:=H3) (fun t ht=>hTs t (Zhv ht)) s4.tk
end
def Two(es:List (Nat×Nat)):Prop:=∃col:Nat->Bool,∀e∈es,col e.1≠col e.2
section
variable{P:Program}{w:World}{K:PySem.W.Frag}{mg:Str->Option Value}{base:Heap}{Pt c:Addr}
abbrev Zis:Stmt:=top 69
inductive ZhI(K:PySem.W.Frag)(Pt:Addr)(vs:List V)(H:Hp)(Q:VK)(_z3:XK):Prop
 |mk (a ns at' mp mt:_) (_:vs=[.ref a,.int at',.int mp,.int mt]) (_:SqL K H a (ns.map V.int)) (_:Dr ns) (_:0<=at') (_:at'<=90) (_:3<=mp) (_:mp<=60) (_:0<=mt) (_:mt<=69) (_:TabI Pt lpos JA H) (_:∀(H')(p)(n)(q)(ts)(es),Gr Pt lpos JA H H'->NetZ H' p n q ts es->2<=n->n<=mp->es.length<=mt->Q (.ref p) H')
theorem scNet:Zr ["_law_script","_law_at","_law_most_points","_law_most_ties","_law_points","_law_many","_law_way"] ["_law_script","_law_at","_law_most_points","_law_most_ties"] (Zh Zis):=⟨rfl,rfl,rfl,by decide+kernel,rfl,by decide+kernel,by decide+kernel⟩
theorem ZiK{f}{fd}(F:Fun K "_law_net" "_law_net" Zis f fd)(T:Bi mg)
  (FD:FnE P w K mg base "_law_draw" ["_law_script","_law_k"] 1 (JD K))(FT:FnE P w K mg base "_law_ties" ["_law_script","_law_at","_law_points","_law_many","_law_way"] 5 (Zfi K Pt)):
  FnOk P w K mg base CX0 6 f fd ["_law_script","_law_at","_law_most_points","_law_most_ties"] (ZhI K Pt):=by
 refine F.ok scNet (fun vs H Q E h=>?_) (fun cdv A outer s H vs Q E hr h=>?_)
 ·obtain⟨a,c,b,e,mt,rfl,_⟩:=h
  rfl
 ·obtain⟨a,c,b,e,mt,rfl,l,m,t0,t1,mp3,mp60,mt0,mt200,hT,q⟩:=h
  have d:Room 1 _:=hr.mono (by decide)
  refine⟨_,Zb (Zj (i:=4) scNet.nd rfl (Or.inl rfl) (Zp Z4 Ze (Zp ZG (Zw FD d (Zc (pv 0) (Zc (pv 1) Za))) (Zp Jq (pv 2) Ze))))
   (Zb (Zj (i:=5) scNet.nd rfl (Or.inl rfl) (Zp ZG (Zw FD d (Zc (pv 0) (Zc (Zp Z4 (pv 1) Ze) Za))) (Zp Z4 (pv 3) Ze)))
   (Zb (Zj (i:=6) scNet.nd rfl (Or.inl rfl) (Zp ZG (Zw FD d (Zc (pv 0) (Zc (Zp Z4 (pv 1) Ze) Za))) Ze))
   (Zb (Z0 (Zm ZI (pv 6) Ze (Zv _)) (Zg (Zj (i:=4) scNet.nd rfl (Or.inl rfl) (Zn (ZbS rfl) rfl T.min Zji (Zc (pv 4) (Zc (Zp Z4 Ze (Zp ZG (Zw FD d (Zc (pv 0) (Zc (Zp Z4 (pv 1) Ze) Za))) Ze)) Za))))) Zt)
   (Zg (Zs (JF (Zc (pv 4) (Zc (Zw FT hr (Zc (pv 0) (Zc (Zp Z4 (pv 1) Ze) (Zc (pv 4) (Zc (pv 5) (Zc (pv 6) Za)))))) Za))))))))
   ,?_⟩
  have d1:=Yh (n:=draw c b) (p:=e-1) (by omega)
  have d2:=Yn (n:=draw c b) (p:=e-1) (by omega)
  have e1:=Yh (n:=draw c (b+1)) (p:=mt+1) (by omega)
  have e2:=Yn (n:=draw c (b+1)) (p:=mt+1) (by omega)
  refine⟨_,rfl,_,rfl,a,c,b,rfl,l,m,t0,by omega,_,rfl,_,_,rfl,rfl,_,_,rfl,rfl,(by omega),_,_,rfl,rfl,_,rfl,_,rfl,_,_,rfl,rfl,a,c,_,rfl,l,m,by omega,by omega,_,rfl,_,_,rfl,rfl,_,_,rfl,rfl,(by omega),_,rfl,_,rfl,_,_,rfl,rfl,a,c,_,rfl,l,m,by omega,by omega,_,_,rfl,rfl,(by show(0:Int)<6;decide),_,rfl,rfl,_,rfl,ZF (fun _=>?_) (fun _=>?_)⟩
  ·have f1:=Yh (n:=draw c (b+3)) (p:=3) (by decide)
   refine⟨_,rfl,_,rfl,_,rfl,_,_,rfl,rfl,a,c,_,rfl,l,m,by omega,by omega,_,_,rfl,rfl,(by show(0:Int)<3;decide),_,_,rfl,rfl,_,_,rfl,?_⟩
   have o:2<=(if 3+draw c (b+3)%3<2+draw c b%(e-1)then 3+draw c (b+3)%3 else 2+draw c b%(e-1))/\(if 3+draw c (b+3)%3<2+draw c b%(e-1)then 3+draw c (b+3)%3 else 2+draw c b%(e-1))<=e:=by
    split<;>omega
   refine⟨_,rfl,_,rfl,_,rfl,_,_,rfl,rfl,_,rfl,_,rfl,_,rfl,a,c,_,_,_,_,rfl,l,m,by omega,by omega,o.1,by omega,e1,by omega,hT,fun H' t ts g u v j=>⟨(by show 2<=sizeLine;decide),fun p k=>?_⟩⟩
   obtain⟨es,r⟩:=Za9 (H:=upd H' p (.tup [.int _,.ref t])) (p:=p) Zd (by rw[Zf (Zk u k)];exact u) (by omega) (j.tk (Zi k).tk) (by omega) (by omega) (Int.le_refl _)
   have:=r.len
   exact q _ p _ t ts es (g.new k) r (by omega) (by omega) (by omega)
  ·refine⟨_,rfl,_,rfl,_,rfl,_,_,rfl,rfl,_,rfl,_,rfl,_,rfl,a,c,_,_,_,_,rfl,l,m,by omega,by omega,by omega,by omega,e1,by omega,hT,fun H' t ts g u v j=>⟨(by show 2<=sizeLine;decide),fun p k=>?_⟩⟩
   obtain⟨es,r⟩:=Za9 (H:=upd H' p (.tup [.int _,.ref t])) (p:=p) Zd (by rw[Zf (Zk u k)];exact u) (by omega) (j.tk (Zi k).tk) (by omega) (by omega) (Int.le_refl _)
   have:=r.len
   exact q _ p _ t ts es (g.new k) r (by omega) (by omega) (by omega)
end
end My
namespace My
def atB(e:Nat×Nat)(p:Nat):Bool:=p==e.1||p==e.2
theorem atB_iff{e:Nat×Nat}{p:Nat}:atB e p=true↔At e p:=by
 unfold atB At
 rw[Bool.or_eq_true,beq_iff_eq,beq_iff_eq]
def dg(es:List (Nat×Nat))(k p:Nat):Nat:=((List.range k).filter fun j=>atB (es.getD j (0,0)) p).length
theorem Zhs(es:List (Nat×Nat))(k p:Nat):dg es (k+1) p=dg es k p+if atB (es.getD k (0,0)) p then 1 else 0:=by
 unfold dg
 rw[List.range_succ,List.filter_append,List.length_append]
 congr 1
 rw[List.filter_cons]
 split<;>rfl
def IsMax(xs:List Int)(M:Int):Prop:=(xs=[]/\M=0)\/(M∈xs/\∀a∈xs,a<=M)
theorem IsMax.uniq{xs:List Int}{M M':Int}(h:IsMax xs M)(h':IsMax xs M'):M=M':=by
 rcases h with⟨e,h⟩|⟨h1,h2⟩<;>rcases h' with⟨e',h'⟩|⟨h1',h2'⟩
 ·omega
 ·rw[e]at h1';cases h1'
 ·rw[e']at h1;cases h1
 ·have:=h2 _ h1';have:=h2' _ h1;omega
def dl(es:List (Nat×Nat))(n:Nat):List Int:=(List.range n).map fun p:Nat=>(dg es es.length p:Int)
theorem Zhb{es:List (Nat×Nat)}{n:Nat}{M:Int}(h:IsMax (dl es n) M){p:Nat}(hp:p<n):(dg es es.length p:Int)<=M:=by
 have hm:(dg es es.length p:Int)∈dl es n:=List.mem_map.mpr ⟨p,List.mem_range.mpr hp,rfl⟩
 rcases h with⟨e,_⟩|⟨_,h⟩
 ·rw[e]at hm;cases hm
 ·exact h _ hm
theorem ZkQ(es:List (Nat×Nat))(k p:Nat):dg es k p<=k:=by
 unfold dg
 exact Nat.le_trans (List.length_filter_le _ _) (by rw[List.length_range];exact Nat.le_refl _)
theorem ZaA{es:List (Nat×Nat)}{n:Nat}{M:Int}(h:IsMax (dl es n) M):0<=M/\M<=es.length:=by
 rcases h with⟨_,h⟩|⟨h,_⟩
 ·omega
 ·obtain⟨p,_,rfl⟩:=List.mem_map.mp h
  have:=ZkQ es es.length p
  omega
theorem sub_len:∀{a b:List Nat},a.Nodup->(∀x∈a,x∈b)->a.length<=b.length
 |[],b,_,_=>Nat.zero_le _
 |x::a,b,nd,h=>by
  have nd':=List.nodup_cons.mp nd
  have hx:x∈b:=h x (.head _)
  have ih:=sub_len (a:=a) (b:=b.erase x) nd'.2 fun y hy=>(List.mem_erase_of_ne (fun(z:y=x)=>nd'.1 (z▸hy))).mpr (h y (.tail _ hy))
  rw[List.length_erase_of_mem hx]at ih
  have:0<b.length:=List.length_pos_of_mem hx
  rw[List.length_cons]
  omega
theorem Zeb(k:Nat)(q:Nat->Bool)(hq:q k=true):∀l:List Nat,k∈l->(l.filter fun j=>j !=k&&q j).length+1<=(l.filter q).length
 |[],h=>by cases h
 |x::l,h=>by
  by_cases e:x=k
  ·subst e
   have hl:(l.filter fun j=>j !=x&&q j).length<=(l.filter q).length:=by
    clear h
    induction l with
    |nil=>exact Nat.le_refl _
    |cons y l ih=>
     simp only[List.filter_cons]
     cases hy:(y !=x)<;>cases hz:q y<;>simp<;>omega
   simp only[List.filter_cons,hq]
   simp
   omega
  ·have ih:=Zeb k q hq l ((List.mem_cons.mp h).resolve_left fun z=>e z.symm)
   simp only[List.filter_cons]
   have:(x !=k)=true:=by simp[e]
   rw[this]
   cases q x<;>simp<;>omega
theorem ZbR{es:List (Nat×Nat)}{tl:List (Option Nat)}{k t:Nat}(hC:CleanTo es tl es.length)(hl:tl.length=es.length)(hk:k<es.length)(n1:¬Used es tl es.length (es.getD k (0,0)).1 t)(n2:¬Used es tl es.length (es.getD k (0,0)).2 t):
  CleanTo es (tl.set k (some t)) es.length:=by
 have nu:∀p,At (es.getD k (0,0)) p->¬Used es tl es.length p t:=fun p hp=>by
  rcases hp with rfl|rfl
  ·exact n1
  ·exact n2
 intro i j t' hj hi h1 h2 p hp hq
 rw[List.getElem?_set]at h1 h2
 by_cases e1:k=i
 ·subst e1
  rw[if_pos rfl,if_pos (by omega)]at h1
  cases h1
  rw[if_neg (by omega)]at h2
  exact nu p hp ⟨j,by omega,h2,hq⟩
 ·rw[if_neg e1]at h1
  by_cases e2:k=j
  ·subst e2
   rw[if_pos rfl,if_pos (by omega)]at h2
   cases h2
   exact nu p hq ⟨i,hi,h1,hp⟩
  ·rw[if_neg e2]at h2
   exact hC i j t' hj hi h1 h2 p hp hq
end My
namespace L2
open PySem PySem.Spec PyProof.Rows
theorem Zf7{X}{K}(hK:X.K=K):OpR X (compareOp .In) (rIn K false):=by
 subst hK
 exact ZbE
theorem Zcf{X:Cx}{K}{es:List _}{k}{t}{n}{pos}(hK:X.K=K)(hc:X.calm=true)(h:PGs X es t)(h1:(assignEach es X.env).length=n)(h2:(assignEach es X.env).findIdx? (·.1)=none):PG X (.Tuple es k pos) (ZkI K n t):=by
 subst hK
 exact YB hc h h1 h2
end L2
namespace My
open PySem L2
def compScope:Expr->Scope
 | .ListComp _ _ s _=>s
 | .Call _ [e] _ _=>compScope e
 | .Tuple [_,e] _ _=>compScope e
 | .BinOp _ _ e _=>compScope e
 | .Compare a _ _ _=>compScope a
 |_=>{kind:= .function,names:=[],isGenerator:=false,isCoroutine:=false}
def retE:Stmt->Expr
 | .Return (some e) _=>e
 | .Assign _ e _=>e
 |_=> .Constant .none 0 ⟨0,0,0,0⟩
def stOf(i k:Nat):Stmt:=(ZK (top i)).getD k (.Pass ⟨0,0,0,0⟩)
def ZkM:Stmt->List Stmt
 | .For _ _ b _ _=>b
 |_=>[]
theorem ZfH(L)(n):lv L n=((List.range n).map fun p:Nat=>(L p:Int)).map V.int:=by
 rw[List.map_map]
 rfl
theorem JN(es)(N):(List.replicate N ([.int 0])).flatten=lv (dg es 0) N:=by
 apply List.ext_getElem?
 intro i
 have b:(List.replicate N ([.int 0]:List V)).flatten=List.replicate N (.int 0):=by
  simp_all
 rw[b]
 by_cases a:i<N
 ·rw[JH _ a,List.getElem?_replicate,if_pos a]
  rfl
 ·rw[List.getElem?_eq_none (by simp_all),List.getElem?_eq_none (by rw[Jt];omega)]
theorem ZcK{L L'}(n)(h:∀p,L p=L' p):lv L n=lv L' n:=by rw[funext h]
theorem Zgg(es)(k)(h:(es.getD k (0,0)).1≠(es.getD k (0,0)).2)(p):
  put (put (dg es k) (es.getD k (0,0)).1 (dg es k (es.getD k (0,0)).1+1)) (es.getD k (0,0)).2 (put (dg es k) (es.getD k (0,0)).1 (dg es k (es.getD k (0,0)).1+1) (es.getD k (0,0)).2+1) p=dg es (k+1) p:=by
 rw[Zhs]
 unfold put atB
 by_cases h1:p=(es.getD k (0,0)).1
 ·simp_all
 ·by_cases h2:p=(es.getD k (0,0)).2
  ·simp_all
  ·simp_all
section
variable{P:Program}{w:World}{K:PySem.W.Frag}{mg:Str->Option Value}{base:Heap}
abbrev Zir:Stmt:=top 1
inductive spNum(vs:List V)(H:Hp)(Q:VK)(_z3:XK):Prop
 |mk (i:_) (_:vs=[.int i]) (_:Q (.bl true) H)
theorem Zj8:Zr ["thing"] ["thing"] (Zh Zir):=⟨rfl,rfl,rfl,by decide+kernel,rfl,by decide+kernel,by decide+kernel⟩
theorem ZiJ{f}{fd}(F:Fun K "is_number" "is_number" Zir f fd)(T:Bi mg):FnOk P w K mg base CX0 1 f fd ["thing"] spNum:=by
 refine F.ok Zj8 (fun d H Q E h=>?_) (fun _ A _ s H d Q E _ h=>?_)
 ·obtain⟨x,rfl,_⟩:=h
  rfl
 ·obtain⟨i,rfl,q⟩:=h
  exact⟨_,Zg (Zs (Zao (Zn ZO rfl T.isi YE (Zc (pv 0) (Zc (Yr (v:= .ty "int") rfl T.int Zld rfl) Za)))
   (ZaT (Zi6 (Zn ZO rfl T.isi YE (Zc (pv 0) (Zc (Yr (v:= .ty "bool") rfl T.bool Zgq rfl) Za))))))),_,rfl,_,_,_,_,rfl,.int i,kit K _ _ _ (by decide+kernel),_,rfl,YA ⟨_,rfl,_,_,_,_,rfl,.int i,kit K _ _ false (by decide+kernel),_,rfl,q⟩⟩
abbrev Ziu:Stmt:=top 2
inductive spBel(vs:List V)(H:Hp)(Q:VK)(_z3:XK):Prop
 |mk (i n:_) (_:vs=[.int i,.int n]) (_:0<=i) (_:i<n) (_:Q (.bl true) H)
theorem ZjA:Zr ["thing","bound"] ["thing","bound"] (Zh Ziu):=⟨rfl,rfl,rfl,by decide+kernel,rfl,by decide+kernel,by decide+kernel⟩
theorem ZiP{f}{fd}(F:Fun K "is_below" "is_below" Ziu f fd)(FN:FnE P w K mg base "is_number" ["thing"] 1 spNum):FnOk P w K mg base CX0 2 f fd ["thing","bound"] spBel:=by
 refine F.ok ZjA (fun b H Q E h=>?_) (fun _ A _ s H b Q E c h=>?_)
 ·obtain⟨x,n,rfl,_⟩:=h
  rfl
 ·obtain⟨i,n,rfl,a,_,q⟩:=h
  refine⟨_,Zg (Zs (Zao (Zw FN c (Zc (pv 0) Za)) (ZaT (Zf3 ZjM Zax Ze (pv 0) (pv 1))))),_,rfl,i,rfl,_,rfl,YA ⟨_,rfl,_,_,rfl,rfl,_,rfl,ZF (fun z=>⟨_,rfl,_,_,rfl,rfl,?_⟩) (fun z=>absurd (decide_eq_true a) z)⟩⟩
  grind
abbrev sMo:Stmt:=top 6
inductive spMo(vs:List V)(H:Hp)(Q:VK)(_z3:XK):Prop
 |mk (p n q ts es:_) (_:vs=[.ref p]) (_:NetZ H p n q ts es) (_:∀H' M,Same H H'->IsMax (dl es n) M->Q (.int M) H')
theorem scMo:Zr ["net","crowds","ends","point"] ["net"] (Zh sMo):=⟨rfl,rfl,rfl,by decide+kernel,rfl,by decide+kernel,by decide+kernel⟩
theorem Zkg{f}{fd}(F:Fun K "most_of" "most_of" sMo f fd)(T:Bi mg):FnOk P w K mg base CX0 1 f fd ["net"] spMo:=by
 refine F.ok scMo (fun vs H Q E h=>?_) (fun cdv A outer s H vs Q E hr h=>?_)
 ·obtain⟨p,n,q,ts,m,rfl,_⟩:=h
  rfl
 ·obtain⟨p,n,qa,ts,m,rfl,N,q⟩:=h
  refine⟨_,Zb (Zj (i:=1) scMo.nd rfl (Or.inl rfl) (Zp ZaY (Yd (Zc Ze Za)) (Zl Zo (pv 0) Ze (fun _ _=>rfl))))
   (Zb (ZL PassesOwn.never rfl (Yu (Zl Zo (pv 0) Ze (fun _ _=>rfl))) (Zq (i:=2) scMo.nd rfl (Or.inl rfl))
    (Zg (ZL PassesOwn.never rfl (Yu (pv 2)) (Zq (i:=3) scMo.nd rfl (Or.inl rfl)) (Zg (ZdQ (pv 1) (pv 3) ZcQ Ze Zd8 ZU)))))
   (Zg (Zs (Za8 (d:=0) rfl (pv 1) Ze rfl T.max rfl)))),?_⟩
  have h60:=N.n60
  refine⟨(by decide),fun b hb=>⟨_,rfl,p,_,_,_,rfl,rfl,SqT.of (by rw[Zf (Zk N.e1 hb)];exact N.e1),rfl,b,n,_,rfl,rfl,Zd,(by omega),(by omega),(by rw[sizeLine_eq];show 1*((n:Int)).toNat<=_;omega),fun D hD=>?_⟩⟩
  have s1:Same H (upd (upd H b (.lst [.int 0])) D (.lst (List.replicate ((n:Int)).toNat ([.int 0])).flatten)):=Same.trans (Zi hb) (Zi hD)
  rw[Int.toNat_natCast,JN m]
  rw[Int.toNat_natCast,JN m]at s1
  have step:∀(r)(g)(k),k<n->Same H r->r D=some (.lst (lv g n))->∀(Q'),(∀B,Same H B->B D=some (.lst (lv (put g k (g k+1)) n))->Q' B)->
    gGetL (.ref D) (.int k) r fun x B=>ipI (fun i j=>i+j) x (.int 1) B fun z H5=>rSetN (.ref D) (.int k) z H5 Q':=by
   refine fun r g k hk s2 hg Q' q'=>⟨D,_,k,.int (g k),rfl,rfl,hg,JH _ hk,(g k),1,rfl,rfl,D,_,k,rfl,rfl,hg,by rw[Jt];exact hk,q' _ (s2.wr ((Zi hb).none hD)) ?_⟩
   rw[Zd,<-Zck]
   rfl
  refine⟨_,rfl,p,_,_,_,rfl,rfl,SqT.of (s1 _ _ N.e1),rfl,qa,rfl,⟨_,SqT.of (s1 _ _ N.e2)⟩,Yt (K:=K) (a:=qa) (xs:=ts) (fun i σ H'=>(∃v2 v,σ=[some (.ref p),some (.ref D),v2,v])/\Same H H'/\H' D=some (.lst (lv (dg m i) n))) ⟨⟨_,_,rfl⟩,s1,Zd⟩ (fun i σ H' _ z=>SqT.of (z.2.1 _ _ N.e2)) (fun i x σ H' hx xq1=>?_) (fun σ H' xq1=>?_)⟩
  ·obtain⟨⟨v2,v,e⟩,sH,hc⟩:=xq1
   subst e
   obtain⟨a,rfl,ha⟩:=N.tie i x hx
   obtain⟨a1,b1,ab⟩:=N.ok _ (getD_mem (show i<m.length by rw[<-N.len];exact(List.getElem?_eq_some_iff.mp hx).1))
   have tw:=Zgg m i ab
   generalize hA:(m.getD i (0,0)).1=u at*
   generalize hB:(m.getD i (0,0)).2=B1 at*
   refine⟨_,rfl,a,rfl,⟨_,SqT.of (sH _ _ ha)⟩,Yt (K:=K) (a:=a) (xs:=[.int u,.int B1]) (fun j σ r=>(∃v,σ=[some (.ref p),some (.ref D),some (.ref a),v])/\Same H r/\r D=some (.lst (lv (if j=0 then dg m i else if j=1 then put (dg m i) u (dg m i u+1)else put (put (dg m i) u (dg m i u+1)) B1 (put (dg m i) u (dg m i u+1) B1+1)) n))) ⟨⟨v,rfl⟩,sH,hc⟩ (fun j σ r _ z=>SqT.of (z.2.1 _ _ ha)) (fun j y σ r hy xq1=>?_) (fun σ r xq1=>?_)⟩
   ·obtain⟨⟨v,e3⟩,s2,h2⟩:=xq1
    subst e3
    match j,hy with
    |0,hy=>
     cases hy
     exact⟨_,rfl,_,rfl,step r _ u a1 s2 h2 _ fun B s3 h3=>⟨⟨_,rfl⟩,s3,h3⟩⟩
    |1,hy=>
     cases hy
     exact⟨_,rfl,_,rfl,step r _ B1 b1 s2 h2 _ fun B s3 h3=>⟨⟨_,rfl⟩,s3,h3⟩⟩
   ·obtain⟨⟨v,e3⟩,s2,h2⟩:=xq1
    refine⟨⟨_,_,e3⟩,s2,?_⟩
    rw[h2,<-ZcK n tw]
    rfl
  ·obtain⟨⟨v2,v,z1⟩,z2,z3⟩:=xq1
   subst z1
   rw[N.len,ZfH]at z3
   refine⟨_,rfl,D,_,rfl,SqL.of z3,fun M hM=>q H' M z2 hM⟩
end
theorem ZdY(p:Nat)(e):inV (.int p) [.int (e.1),.int (e.2)]=true↔At e p:=by
 unfold inV At
 simp[List.any_cons,List.any_nil,Bool.or_false,eqV,Bool.or_eq_true]
 omega
section
variable{P:Program}{w:World}{K:PySem.W.Frag}{mg:Str->Option Value}{base:Heap}
abbrev sTa:Stmt:=top 29
abbrev ZgD:Scope:=compScope (retE (stOf 29 0))
abbrev nTa:List Str:=["net","tints","point"]
inductive Zim(P:Program)(w:World)(vs:List V)(H:Hp)(Q:VK)(_z3:XK):Prop
 |mk (p r:Addr) (n:Nat) (q:Addr) (ts:List V) (es:List (Nat×Nat)) (tl:List (Option Nat)) (pt:Nat) (_:vs=[.ref p,.ref r,.int pt]) (_:NetZ H p n q ts es) (_:H r=some (.tup (tv tl))) (_:tl.length=es.length) (_:∀H' d kvs,Same H H'->H' d=some (ZeG P w d kvs)->(∀t:Nat,(ZP kvs (some t)).isSome=true↔Used es tl es.length pt t)->Q (.ref d) H')
theorem Zk4:(["ends","tint","point"]:List Str).Nodup:=by decide+kernel
theorem Zl5:Zr nTa ["net","tints","point"] (Zh sTa):=⟨rfl,rfl,rfl,by decide+kernel,rfl,by decide+kernel,by decide+kernel⟩
theorem ZkU{f}{cdv}{A}{outer}{s}{H}{E}:
  Blk (Yk CX0 P w K mg base nTa "tints_at" (Zh sTa) f cdv A outer s H E).nox ZgD [("point",s.heap.objs.size+1)] ["ends","tint","point"] [none,none,some 2]:=by
 refine⟨rfl,rfl,by decide+kernel,by decide+kernel,fun p d=>?_,fun y g e=>?_,⟨rfl,rfl,rfl⟩,trivial⟩
 ·rw[List.mem_singleton.mp d]
  rfl
 ·have _:y∈[((PySem.Str.ofString _),NameKind.local),(PySem.Str.ofString _,.local),(PySem.Str.ofString _,.local),(PySem.Str.ofString _,.free)]:=g
  grind
theorem ZjY{f}{fd}(F:Fun K "tints_at" "tints_at" sTa f fd)(T:Bi mg):FnOk P w K mg base CX0 1 f fd ["net","tints","point"] (Zim P w):=by
 refine F.ok Zl5 (fun vs H Q E h=>?_) (fun cdv A _ s H vs Q E hr h=>?_)
 ·obtain⟨p,r,n,q,ts,Y,tl,U,rfl,_⟩:=h
  rfl
 ·obtain⟨p,r,n,qa,ts,Y,tl,U,rfl,N,hR,htl,q⟩:=h
  refine⟨_,Zg (Zs (Z1 (ZdE hr) rfl T.dict Zle (Zc (Zi8 ZkU rfl rfl T.zip (Zc (Zl Zo (pv 0) Ze (fun _ _=>rfl)) (Zc (pv 1) Za)) (Z2 (YU (Z9 0) (Zar _)) (Z2 (Z9 1) ZY)) rfl rfl
   (fun C fp s H=>Zcf (K:=K) (n:=2) rfl rfl (@Zy _ _ _ _ _ (Zq (i:=0) Zk4 rfl (Or.inl rfl) (hf:=Or.inr rfl)) (@Zy _ _ _ _ _ (Zq (i:=1) Zk4 rfl (Or.inl rfl) (hf:=Or.inr rfl)) Ya rfl) rfl) rfl rfl)
   (fun C fp s H=>Y8 (Zm (Zf7 rfl) (pv 2) (pv 0) rfl)) (fun C fp s H=>Z5 (Zc (pv 1) (Zc ZE Za)))) Za))),?_⟩
  have h200:=N.l200
  have O:=N.len
  refine⟨_,rfl,p,_,_,_,rfl,rfl,SqT.of N.e1,rfl,_,rfl,qa,r,ts,tv tl,rfl,SqT.of N.e2,SqT.of hR,(by rw[Yp];omega),(by omega),
   fun i v σ S=>Same H S/\v.length<=i/\(∃G:List (Option Int×V),v.length=G.length/\(∀(j:Nat) y g,v[j]?=some y->G[j]?=some g->∃b,y= .ref b/\S b=some (.tup [nV g.1,g.2]))/\∀t:Nat,(∃g∈G,g.1=some (t:Int))↔Used Y tl i U t)/\∃v0 v1,σ=[v0,v1,some (.int U)],
   ⟨Same.refl H,Nat.le_refl _,⟨[],rfl,(fun j y g z=>by cases z),fun t=>⟨(fun⟨g,z,_⟩=>by cases z),fun z=>absurd z Used.zero⟩⟩,none,none,rfl⟩,
   fun i v σ S hi⟨J,hl,_⟩=>⟨SqT.of (J _ _ N.e2),SqT.of (J _ _ hR),hl⟩,fun i x y v σ S hx hy xq1 TT H1 s1 hTT=>?_,fun v σ S xq1 l H2 s2 hl2=>?_⟩
  ·obtain⟨J,hl,⟨G,R,W,X⟩,v0,v1,e⟩:=xq1
   subst e
   obtain⟨o,ho,rfl⟩:=Jk hy
   obtain⟨a,rfl,ha⟩:=N.tie i x hx
   have I:=Same.trans J s1
   refine⟨TT,_,rfl,SqT.of hTT,rfl,_,_,rfl,_,_,rfl,rfl,_,rfl,_,rfl,a,_,rfl,.inr (SqT.of (I _ _ ha)),rfl,rfl,_,rfl,ZF (fun hh=>?_) (fun hh=>?_)⟩
   ·refine⟨_,rfl,rfl,fun u H3 Z hu=>⟨Same.trans I Z,by rw[List.length_append,List.length_singleton];omega,⟨G++[(o.map fun t:Nat=>(t:Int),.bl true)],by rw[List.length_append,List.length_append,R];rfl,fun j y g k B=>?_,fun t=>?_⟩,_,_,rfl⟩⟩
    ·by_cases hj:j<v.length
     ·rw[List.getElem?_append_left hj]at k
      rw[List.getElem?_append_left (by omega)]at B
      obtain⟨b,M,L⟩:=W j y g k B
      exact⟨b,M,Z _ _ (s1 _ _ L)⟩
     ·rw[List.getElem?_append_right (by omega)]at k
      rw[List.getElem?_append_right (by omega),<-R]at B
      have hj0:j-v.length=0:=by
       cases hz:j-v.length with
       |zero=>rfl
       |succ m=>rw[hz]at k;cases k
      rw[hj0]at k B
      cases k
      cases B
      exact⟨u,rfl,by rw[hu,Zjx]⟩
    ·rw[Used.succ,<-X t,ho]
     constructor
     ·rintro⟨g,hp,e⟩
      rcases List.mem_append.mp hp with z|z
      ·exact .inl ⟨g,z,e⟩
      ·rw[List.mem_singleton]at z
       subst z
       right
       cases o with
       |none=>cases e
       |some t'=>
        have:t'=t:=by have:=Option.some.inj (show some (t':Int)=some (t:Int)from e);omega
        subst this
        exact⟨rfl,((ZdY U (Y.getD i (0,0))).mp hh)⟩
     ·rintro(⟨g,hp,e⟩|⟨z,_⟩)
      ·exact⟨g,List.mem_append_left _ hp,e⟩
      ·cases z
       exact⟨_,List.mem_append_right _ (List.mem_singleton.mpr rfl),rfl⟩
   ·refine⟨I,by omega,⟨G,R,fun j y g k B=>?_,fun t=>?_⟩,_,_,rfl⟩
    ·obtain⟨b,M,L⟩:=W j y g k B
     exact⟨b,M,s1 _ _ L⟩
    ·rw[X t,Used.succ]
     exact⟨.inl,fun z=>z.elim id fun⟨_,z⟩=>absurd z (fun z=>hh ((ZdY U (Y.getD i (0,0))).mpr z))⟩
  ·obtain⟨J,hl,⟨G,R,W,X⟩,_⟩:=xq1
   refine⟨l,v,G,rfl,SqL.of hl2,R,by omega,fun j y g k B=>?_,fun d H3 Z hd=>q H3 d _ (Same.trans (Same.trans J s2) Z) hd fun t=>?_⟩
   ·obtain⟨b,M,L⟩:=W j y g k B
    exact⟨b,M,s2 _ _ L⟩
   ·rw[Zcq,X t,O]
end
noncomputable def frees(es:List (Nat×Nat))(tl:List (Option Nat))(pt m:Nat):List Nat:=(List.range m).filter fun t=>@decide (¬Used es tl es.length pt t) (Classical.propDecidable _)
theorem Zb0{es}{tl}{pt m}(h:¬Used es tl es.length pt m):frees es tl pt (m+1)=frees es tl pt m++[m]:=by
 unfold frees
 rw[List.range_succ,List.filter_append,List.filter_cons,if_pos (@decide_eq_true _ (Classical.propDecidable _) h)]
 rfl
theorem Zbk{es}{tl}{pt m}(h:Used es tl es.length pt m):frees es tl pt (m+1)=frees es tl pt m:=by
 unfold frees
 rw[List.range_succ,List.filter_append,List.filter_cons,if_neg (fun z=>absurd h (@of_decide_eq_true _ (Classical.propDecidable _) z))]
 simp
theorem ZbP(es)(tl)(pt m):(frees es tl pt m).length<=m:=Nat.le_trans (List.length_filter_le _ _) (by grind)
theorem nl_app(l)(x:Nat):nl l++[V.int x]=nl (l++[x]):=by unfold nl;grind
section
variable{P:Program}{w:World}{K:PySem.W.Frag}{mg:Str->Option Value}{base:Heap}
abbrev sFt:Stmt:=top 30
abbrev Zhn:Scope:=compScope (retE (stOf 30 1))
abbrev nFt:List Str:=["net","tints","point","many","taken"]
inductive spFt(vs:List V)(H:Hp)(Q:VK)(_z3:XK):Prop
 |mk (p r:Addr) (n:Nat) (q:Addr) (ts:List V) (es:List (Nat×Nat)) (tl:List (Option Nat)) (pt m:Nat) (_:vs=[.ref p,.ref r,.int pt,.int m]) (_:NetZ H p n q ts es) (_:H r=some (.tup (tv tl))) (_:tl.length=es.length) (_:m<=1000) (_:∀H' t,Same H H'->H' t=some (.tup (nl (frees es tl pt m)))->Q (.ref t) H')
theorem ZlN:(["tint","taken"]:List Str).Nodup:=by decide+kernel
theorem scFt:Zr nFt ["net","tints","point","many"] (Zh sFt):=⟨rfl,rfl,rfl,by decide+kernel,rfl,by decide+kernel,by decide+kernel⟩
theorem ZkZ{f}{cdv}{A}{outer}{s}{H}{E}:
  Blk (Yk CX0 P w K mg base nFt "free_tints" (Zh sFt) f cdv A outer s H E).nox Zhn [("taken",s.heap.objs.size+1)] ["tint","taken"] [none,some 4]:=by
 refine⟨rfl,rfl,by decide+kernel,by decide+kernel,fun p d=>?_,fun y g e=>?_,⟨rfl,rfl,rfl⟩,trivial⟩
 ·rw[List.mem_singleton.mp d]
  rfl
 ·have c:y∈[((PySem.Str.ofString _),NameKind.local),(PySem.Str.ofString _,.local),(PySem.Str.ofString _,.free)]:=g
  simp[List.mem_cons,List.not_mem_nil,or_false]at c
  grind
theorem Zkl{f}{fd}(F:Fun K "free_tints" "free_tints" sFt f fd)(T:Bi mg)(FA:FnE P w K mg base "tints_at" ["net","tints","point"] 1 (Zim P w)):FnOk P w K mg base CX0 2 f fd ["net","tints","point","many"] spFt:=by
 refine F.ok scFt (fun vs H Q E h=>?_) (fun cdv A _ s H vs Q E hr h=>?_)
 ·obtain⟨p,r,n,q,I,b,k,u,m,rfl,_⟩:=h
  rfl
 ·obtain⟨p,r,n,qa,I,b,k,u,m,rfl,N,hR,D,hm,q⟩:=h
  refine⟨_,Zb (Zj (i:=4) scFt.nd rfl (Or.inr rfl) (Zw FA hr (Zc (pv 0) (Zc (pv 1) (Zc (pv 2) Za)))))
   (Zg (Zs (Z1 Z7 rfl T.tuple Yl (Zc (ZaU ZkZ rfl rfl T.range (Zc (pv 3) Za) (Z2 (Z9 3) ZY) rfl (fun C G s H=>Zq (i:=0) ZlN rfl (Or.inl rfl))
    (fun C G s H=>Y8 (JE (Zaw (P:=P) (w:=w) rfl rfl (pv 0) (pv 1)))) (fun C G s H=>pv 0)) Za)))),_,rfl,_,rfl,_,rfl,p,r,n,qa,I,b,k,u,rfl,N,hR,D,fun H1 d y s1 hd g=>⟨_,rfl,m,rfl,by omega,fun i j σ o=>Same H1 o/\j=nl (frees b k u i)/\∃J,σ=[J,some (.ref d)],⟨Same.refl _,rfl,_,rfl⟩,fun i j σ o hi⟨_,e,_⟩=>by subst e;rw[nl_len];exact ZbP _ _ _ _,fun i j σ o hi xq1=>?_,fun j σ o xq1 l H2 s2 hl=>?_⟩⟩
  ·obtain⟨c,v,J,e⟩:=xq1
   subst v e
   refine⟨_,rfl,_,rfl,d,y,some (0+i),rfl,rfl,c _ _ hd,_,rfl,?_⟩
   rw[Int.zero_add]
   refine ZF (fun B=>?_) (fun B=>?_)
   ·have x:¬Used b k b.length u i:=fun z=>by rw[(g i).mpr z]at B;cases B
    exact⟨_,rfl,c,by rw[Zb0 x,<-nl_app],_,rfl⟩
   ·have x:=(g i).mp (by
     grind)
    exact⟨c,by rw[Zbk x],_,rfl⟩
  ·obtain⟨c,v,_⟩:=xq1
   subst v
   exact⟨l,_,rfl,.inl hl,fun t H3 s3 ht=>q H3 t (Same.trans (Same.trans (Same.trans s1 c) s2) s3) ht⟩
abbrev sFb:Stmt:=top 31
abbrev Zhp:Scope:=compScope (retE (stOf 31 1))
abbrev nFb:List Str:=["net","tints","one","other","many","taken"]
end
theorem Ze5{sp}{t}(hs:∀vs H Q Q' E,(∀v H',Q v H'->Q' v H')->sp vs H Q E->sp vs H Q' E) (h:Zah t):JB (ZbB sp [] E0 t):=fun σ H Q Q' k q=>h σ H _ _ (fun vs _ q=>hs _ _ _ _ _ k q) q
theorem Zhc:∀vs H Q Q' E,(∀v H',Q v H'->Q' v H')->spFt vs H Q E->spFt vs H Q' E:=fun vs H Q Q' E k⟨p,r,n,q,b,a,f,g,m,e,N,d,i,h,z⟩=>⟨p,r,n,q,b,a,f,g,m,e,N,d,i,h,fun H' t s c=>k _ _ (z H' t s c)⟩
noncomputable def ZaF(es:List (Nat×Nat))(tl:List (Option Nat))(pt:Nat)(l:List Nat):List Nat:=l.filter fun t=>@decide (¬Used es tl es.length pt t) (Classical.propDecidable _)
theorem Zc0{es}{tl}{pt t}{l}:t∈ZaF es tl pt l↔t∈l/\¬Used es tl es.length pt t:=by
 unfold ZaF
 grind
theorem Zg8{es}{tl}{pt x i}{l:List _}(hx:l[i]?=some x)(h:¬Used es tl es.length pt x):ZaF es tl pt (l.take (i+1))=ZaF es tl pt (l.take i)++[x]:=by
 rw[List.take_add_one,hx]
 show List.filter _ (l.take i++[x])=_
 rw[List.filter_append,List.filter_cons,if_pos (@decide_eq_true _ (Classical.propDecidable _) h)]
 rfl
theorem ZeY{es}{tl}{pt x i}{l:List _}(hx:l[i]?=some x)(h:Used es tl es.length pt x):ZaF es tl pt (l.take (i+1))=ZaF es tl pt (l.take i):=by
 unfold ZaF
 rw[List.take_add_one,hx]
 simp_all
theorem ZeZ(es)(tl)(pt)(l):(ZaF es tl pt l).length<=l.length:=List.length_filter_le _ _
theorem frees_mem{es}{tl}{pt t m}:t∈frees es tl pt m↔t<m/\¬Used es tl es.length pt t:=by
 show t∈ZaF es tl pt _↔_
 rw[Zc0,List.mem_range]
noncomputable def both(es:List (Nat×Nat))(tl:List (Option Nat))(a b m:Nat):List Nat:=ZaF es tl b (frees es tl a m)
theorem both_mem{es}{tl}{a b t m}:t∈both es tl a b m↔t<m/\¬Used es tl es.length a t/\¬Used es tl es.length b t:=by
 unfold both
 rw[Zc0,frees_mem,and_assoc]
theorem ZfG{l}{i:Nat}{x}(h:(nl l)[i]?=some x):∃y,l[i]?=some y/\x= .int y:=by
 unfold nl at h
 rw[List.getElem?_map]at h
 cases e:l[i]? with
 |none=>grind
 |some y=>simp_all
section
variable{P:Program}{w:World}{K:PySem.W.Frag}{mg:Str->Option Value}{base:Heap}
inductive spFb(vs:List V)(H:Hp)(Q:VK)(_z3:XK):Prop
 |mk (p r:Addr) (n:Nat) (q:Addr) (ts:List V) (es:List (Nat×Nat)) (tl:List (Option Nat)) (a b m:Nat) (_:vs=[.ref p,.ref r,.int a,.int b,.int m]) (_:NetZ H p n q ts es) (_:H r=some (.tup (tv tl))) (_:tl.length=es.length) (_:m<=1000) (_:∀H' t,Same H H'->H' t=some (.tup (nl (both es tl a b m)))->Q (.ref t) H')
theorem ZlO:(["tint","taken"]:List Str).Nodup:=by decide+kernel
theorem scFb:Zr nFb ["net","tints","one","other","many"] (Zh sFb):=⟨rfl,rfl,rfl,by decide+kernel,rfl,by decide+kernel,by decide+kernel⟩
theorem Zla{f}{cdv}{A}{outer}{s}{H}{E}:
  Blk (Yk CX0 P w K mg base nFb "free_at_both" (Zh sFb) f cdv A outer s H E).nox Zhp [("taken",s.heap.objs.size+1)] ["tint","taken"] [none,some 5]:=by
 refine⟨rfl,rfl,by decide+kernel,by decide+kernel,fun p d=>?_,fun y g e=>?_,⟨rfl,rfl,rfl⟩,trivial⟩
 ·rw[List.mem_singleton.mp d]
  rfl
 ·have c:y∈[((PySem.Str.ofString _),NameKind.local),(PySem.Str.ofString _,.local),(PySem.Str.ofString _,.free)]:=g
  simp[List.mem_cons,List.not_mem_nil,or_false]at c
  grind
theorem Zkm{f}{fd}(F:Fun K "free_at_both" "free_at_both" sFb f fd)(T:Bi mg)(FA:FnE P w K mg base "tints_at" ["net","tints","point"] 2 (Zim P w))(FF:FnE P w K mg base "free_tints" ["net","tints","point","many"] 2 spFt):FnOk P w K mg base CX0 3 f fd ["net","tints","one","other","many"] spFb:=by
 refine F.ok scFb (fun vs H Q E h=>?_) (fun cdv A _ s H vs Q E hr h=>?_)
 ·obtain⟨p,r,n,q,ts,c,k,a,b,m,rfl,_⟩:=h
  rfl
 ·obtain⟨p,r,n,qa,ts,c,k,a,b,m,rfl,N,hR,o,hm,q⟩:=h
  refine⟨_,Zb (Zj (i:=5) scFb.nd rfl (Or.inr rfl) (Zw FA hr (Zc (pv 0) (Zc (pv 1) (Zc (pv 3) Za)))))
   (Zg (Zs (Z1 Z7 rfl T.tuple Yl (Zc (Zch Zla rfl (Zw FF hr (Zc (pv 0) (Zc (pv 1) (Zc (pv 2) (Zc (pv 4) Za))))) (Ze5 Zhc (Z2 (Z9 0) (Z2 (Z9 1) (Z2 (Z9 2) (Z2 (Z9 4) ZY)))))
    (fun C fp s H=>Zq (i:=0) ZlO rfl (Or.inl rfl)) (fun C fp s H=>Y8 (JE (Zaw (P:=P) (w:=w) rfl rfl (pv 0) (pv 1)))) (fun C fp s H=>pv 0)) Za)))),_,rfl,_,rfl,_,rfl,p,r,n,qa,ts,c,k,b,rfl,N,hR,o,fun H1 d B s1 hd v=>⟨_,rfl,_,rfl,_,rfl,_,rfl,p,r,n,qa,ts,c,k,a,m,rfl,N.same s1,s1 _ _ hR,o,hm,fun H2 t s2 ht=>?_⟩⟩
  have hfl:=ZbP c k a m
  refine⟨t,_,rfl,SqT.of ht,(by rw[nl_len];omega),fun i D σ G=>Same H2 G/\D=nl (ZaF c k b ((frees c k a m).take i))/\∃v0,σ=[v0,some (.ref d)],⟨Same.refl _,rfl,none,rfl⟩,fun i D σ G hi⟨j,e,_⟩=>⟨SqT.of (j _ _ ht),?_⟩,fun i x D σ G hx xq1=>?_,fun D σ G xq1 l H3 s3 hl=>?_⟩
  ·subst e
   rw[nl_len]
   refine Nat.le_trans (ZeZ _ _ _ _) ?_
   rw[List.length_take]
   omega
  ·obtain⟨j,I,v0,e⟩:=xq1
   subst I e
   obtain⟨y,hy,rfl⟩:=ZfG hx
   refine⟨_,rfl,_,rfl,d,B,some y,rfl,rfl,j _ _ (s2 _ _ hd),_,rfl,ZF (fun u=>?_) (fun u=>?_)⟩
   ·have J:¬Used c k c.length b y:=fun z=>by rw[(v y).mpr z]at u;cases u
    exact⟨_,rfl,j,by rw[Zg8 hy J,<-nl_app],_,rfl⟩
   ·have J:=(v y).mp (by
     cases z:(ZP B (some y)).isSome with
     |true=>rfl
     |_=>rw[z]at u;exact absurd rfl u)
    exact⟨j,by rw[ZeY hy J],_,rfl⟩
  ·obtain⟨j,I,_⟩:=xq1
   subst I
   rw[nl_len,List.take_length]at hl
   exact⟨l,_,rfl,.inl hl,fun t' H4 s4 L=>q H4 t' (Same.trans (Same.trans (Same.trans (Same.trans s1 s2) j) s3) s4) L⟩
end
end My
namespace L2
open PySem PySem.Spec PyProof.Rows
structure MeE(P:Program)(w:World)(K:PySem.W.Frag)(mg:Str->Option Value)(base:Heap)(C:Addr)(m:Str)(ps:List Str)(k:Nat)(sp:Sp):Prop where
 ex:∃f fd,FnOk P w K mg base CX0 k f fd ps sp/\ZdI K C m f/\Cls K C/\Binds K fd ps []
theorem MeE.mono{P:Program}{w:World}{K:PySem.W.Frag}{mg:Str->Option Value}{base:Heap}{C:Addr}{x:Str}{ps:List Str}{j k:Nat}{sp:Sp}(F:MeE P w K mg base C x ps j sp)(h:j<=k):MeE P w K mg base C x ps k sp:=
 let⟨f,fd,a,b⟩:=F.ex;⟨f,fd,a.mono h,b⟩
theorem Zav{X:Cx}{C:Addr}{m:Str}{ps:List Str}{k:Nat}{sp:Sp}{o e:Expr}{es:List Expr}{ta:TE}{t:TA}{apos pos:Pos}{pl:Sem Bool}(F:MeE X.prog X.w X.K X.mg X.base C m ps k sp)(hr:Room k X.A)(he:PE X o ta)(ha:PA X (e::es) t)
  (h1:ZV e=true:=by rfl)(h2:es.all ZV=true:=by rfl)
  (ht:eval (.Call (.Attribute o m apos) (e::es) [] pos) X.env=(do
   let ov<-eval o X.env
   standAt apos.atName
   let(f,first)<-holding [ov] (getMethod ov m pl)
   callWith pos f first (backTo pos (starEach (e::es) X.env)) (backToKw pos (keywordEach [] X.env))):=by rfl):
  PE X (.Call (.Attribute o m apos) (e::es) [] pos) (ZhB C m sp [] E0 ta t):=
 let⟨_,_,a,b,c,d⟩:=F.ex;Zcg (pl:=pl) he c b a hr d .nil ZhO ha (Yb h1) (Jo h2) ht
end L2
namespace My
open PySem L2
theorem Zbh{l:List Nat}(h:0<l.length):l[0]?=some (l.getD 0 0):=by
 cases l with
 |nil=>cases h
 |cons x l=>rfl
end My
namespace L2
open PySem PySem.Spec PyProof.Rows
theorem Zga{K}{a}{xs}{g:TG}{tb:TS}{D:Ends}{σ:St}{H:Hp}(Pv:Nat->St->Hp->Prop)(h0:Pv 0 σ H)(hl:∀i σ H,i<=xs.length->Pv i σ H->SqT K H a xs)
  (hs:∀i x σ H,xs[i]?=some x->Pv i σ H->∀T H1,Same H H1->H1 T=some (.tup [.int i,x])->g (.ref T) σ H1 fun σ2 H2=>tb {D with nx:=Pv (i+1),ct:=Pv (i+1),bk:=D.nx} σ2 H2) (hd:∀σ H,Pv xs.length σ H->D.nx σ H):
  ∃W:Nat->Nat->St->Hp->Prop,(∃m,W 0 m σ H)/\∀i m σ H,W i m σ H->
   ((Ite K a).stop i H/\D.nx σ H)\/((Ite K a).go i H/\∃N:St->Hp->Prop,(∀σ' H',N σ' H'->∃m',m'<m/\W (i+1) m' σ' H')/\∀x H',(Ite K a).yld i H x H'->g x σ H' fun σ2 H2=>tb {D with nx:=N,ct:=N,bk:=D.nx} σ2 H2):=by
 refine⟨fun i m σ H=>m=xs.length-i/\i<=xs.length/\Pv i σ H,⟨xs.length,by simp,Nat.zero_le _,h0⟩,?_⟩
 rintro i m σ H ⟨rfl,d,p⟩
 have c:=hl i σ H d p
 by_cases b:i<xs.length
 ·refine .inr ⟨⟨xs,xs[i],c,by simp[b]⟩,_,fun σ' H' h=>⟨_,by omega,rfl,b,h⟩,fun x H' y=>?_⟩
  obtain⟨T,u,rfl,f,rfl,j⟩:=y
  exact hs i u σ H (j xs c) p T _ (Zz f) Zd
 ·have e:i=xs.length:=by omega
  subst e
  exact .inl ⟨⟨xs,c,Nat.le_refl _⟩,hd σ H p⟩
end L2
namespace My
open PySem L2
theorem Zh2:bootBuiltins "sorted"=some (.builtin "sorted"):=by decide+kernel
def oth(e:Nat×Nat)(x:Nat):Nat:=if e.1=x then e.2 else e.1
theorem ZiB(e)(x):At e (oth e x):=by unfold oth At;split<;>simp
theorem Zjk{e}{x y}(hx:At e x)(hy:At e y):y=x\/y=oth e x:=by
 unfold At at hx hy
 unfold oth
 split<;>omega
abbrev kN(x:Nat):Key:=Sum.inl x
theorem ZfN{x y}(h:kN x=kN y):x=y:=by grind
section
variable{P:Program}{w:World}{K:PySem.W.Frag}{mg:Str->Option Value}{base:Heap}
abbrev sAc:Stmt:=top 4
inductive spAc(vs:List V)(H:Hp)(Q:VK)(_z3:XK):Prop
 |mk (p:Addr) (n:Nat) (q:Addr) (ts:List V) (es:List (Nat×Nat)) (k x:Nat) (_:vs=[.ref p,.int k,.int x]) (_:NetZ H p n q ts es) (_:k<es.length) (_:Q (.int (oth (es.getD k (0,0)) x)) H)
theorem scAc:Zr ["net","tie","point","ends"] ["net","tie","point"] (Zh sAc):=⟨rfl,rfl,rfl,by decide+kernel,rfl,by decide+kernel,by decide+kernel⟩
theorem Zk0{f}{fd}(F:Fun K "across" "across" sAc f fd):FnOk P w K mg base CX0 1 f fd ["net","tie","point"] spAc:=by
 refine F.ok scAc (fun m H Q E h=>?_) (fun _ A _ s H m Q E _ h=>?_)
 ·obtain⟨p,n,q,l,c,k,x,rfl,_⟩:=h
  rfl
 ·obtain⟨p,n,j,l,c,k,x,rfl,N,e,q⟩:=h
  refine⟨_,Zb (Zj (i:=3) scAc.nd rfl (Or.inl rfl) (Zl Zo (Zl Zo (pv 0) Ze (fun _ _=>rfl)) (pv 1) (fun _ _=>rfl)))
   (Zg (Zs (JU (Zm ZI (Zl Zo (pv 3) Ze (fun _ _=>rfl)) (pv 2) (Zv _)) (Zl Zo (pv 3) Ze (fun _ _=>rfl)) (Zl Zo (pv 3) Ze (fun _ _=>rfl))))),?_⟩
  obtain⟨a,g,b⟩:=N.at' e
  refine⟨_,rfl,p,_,_,_,rfl,rfl,SqT.of N.e1,rfl,_,rfl,j,_,_,_,rfl,rfl,SqT.of N.e2,Z3 g,_,rfl,a,_,_,_,rfl,rfl,SqT.of b,rfl,_,rfl,rfl,_,rfl,?_⟩
  unfold oth at q
  refine ZF (fun d=>?_) (fun d=>?_)
  ·rw[if_pos (show(c.getD k (0,0)).1=x by grind)]at q
   exact⟨_,rfl,a,_,_,_,rfl,rfl,SqT.of b,rfl,q⟩
  ·rw[if_neg (show¬(c.getD k (0,0)).1=x from fun z=>d (decide_eq_true (by rw[z])))]at q
   exact⟨_,rfl,a,_,_,_,rfl,rfl,SqT.of b,rfl,q⟩
end
structure Rows(H0 H:Hp)(d:Addr)(kvs:List (Key×V))(R:Nat->Nat->Prop)(b:Nat):Prop where
 dd:H d=some (.dK kvs)
 dn:H0 d=none
 s:Same H0 H
 len:kvs.length<=b
 row:∀x v,ZP kvs (kN x)=some v->∃l ks,v= .ref l/\H0 l=none/\H l=some (.lst (nl ks))/\(∀k,k∈ks↔R k x)/\ks.length<=b
 no:∀x,ZP kvs (kN x)=none->∀k,¬R k x
 inj:∀x y l,ZP kvs (kN x)=some (.ref l)->ZP kvs (kN y)=some (.ref l)->x=y
theorem Rows.iff{H0 H}{d}{kvs}{R S}{b}(h:Rows H0 H d kvs R b)(e:∀k x,R k x↔S k x):Rows H0 H d kvs S b:=
 {h with row:=fun x v c=>let⟨l,i,j,a,g,n,f⟩:=h.row x v c;⟨l,i,j,a,g,fun k=>(n k).trans (e k x),f⟩,no:=fun x m k=>fun z=>h.no x m k ((e k x).mpr z)}
theorem Rows.same{H0 H H'}{d}{kvs}{R}{b}(h:Rows H0 H d kvs R b)(s:Same H H'):Rows H0 H' d kvs R b:=
 {h with dd:=s _ _ h.dd,s:=Same.trans h.s s,row:=fun x v c=>let⟨l,g,e,a,i,j,f⟩:=h.row x v c;⟨l,g,e,a,s _ _ i,j,f⟩}
theorem Rows.mono{H0 H}{d}{kvs}{R}{b c}(h:Rows H0 H d kvs R b)(hb:b<=c):Rows H0 H d kvs R c:=
 {h with len:=Nat.le_trans h.len hb,row:=fun x v e=>let⟨l,g,i,a,j,k,f⟩:=h.row x v e;⟨l,g,i,a,j,k,Nat.le_trans f hb⟩}
theorem Rows.add{H0 H}{d l}{kvs}{R}{b x t}{ks}(h:Rows H0 H d kvs R b)(hv:ZP kvs (kN x)=some (.ref l))(hl:H l=some (.lst (nl ks)))(hk:∀k,k∈ks↔R k x) (hb:ks.length<=b) (hn:H0 l=none):
  Rows H0 (upd H l (.lst (nl (ks++[t])))) d kvs (fun k y=>R k y\/(k=t/\y=x)) (b+1):=by
 refine⟨by rw[Zf (show d≠l from fun z=>by rw[<-z,h.dd]at hl;cases hl)];exact h.dd,h.dn,h.s.wr hn,by have:=h.len;omega,fun y v a=>?_,fun y a k z=>?_,h.inj⟩
 ·obtain⟨c,_,rfl,g,f,_,_⟩:=h.row y v a
  by_cases e:y=x
  ·subst e
   rw[hv]at a
   cases a
   refine⟨l,_,rfl,hn,Zd,fun k=>?_,by grind⟩
   grind
  ·refine⟨c,_,rfl,g,by rw[Zf (show c≠l from fun z=>e (h.inj y x l (by grind) hv))];exact f,fun k=>?_,by omega⟩
   simp_all
 ·rcases z with z|⟨_,z⟩
  ·exact h.no y a k z
  ·grind
theorem Rows.new{H0 H}{d l}{kvs}{R}{b x}(h:Rows H0 H d kvs R b)(hx:ZP kvs (kN x)=none)(hl:H l=some (.lst (nl [])))(hn:H0 l=none)(hnew:∀y,ZP kvs (kN y)≠some (.ref l)):Rows H0 (upd H d (.dK (putK kvs (kN x) (.ref l)))) d (putK kvs (kN x) (.ref l)) R (b+1):=by
 have _:=ZN kvs (kN x) (V.ref l)
 refine⟨Zd,h.dn,h.s.wr h.dn,by have:=h.len;omega,fun y v a=>?_,fun y a k=>?_,fun y z m a c=>?_⟩
 ·rw[YQ]at a
  by_cases e:kN y=kN x
  ·rw[if_pos e]at a
   cases a
   have:=ZfN e
   subst this
   exact⟨l,[],rfl,hn,by rw[Zf (show l≠d from fun z=>by rw[z,h.dd]at hl;cases hl)];exact hl,fun k=>⟨fun z=>(by cases z),fun z=>absurd z (h.no y hx k)⟩,Nat.zero_le _⟩
  ·rw[if_neg e]at a
   obtain⟨g,_,n,j,f,o,_⟩:=h.row y v a
   exact⟨g,_,n,j,by rw[Zf (show g≠d from fun z=>by rw[z,h.dd]at f;cases f)];exact f,o,by omega⟩
 ·rw[YQ]at a
  by_cases e:kN y=kN x
  ·simp_all
  ·rw[if_neg e]at a;exact h.no y a k
 ·rw[YQ]at a c
  by_cases e:kN y=kN x
  ·grind
  ·by_cases i:kN z=kN x
   ·grind
   ·rw[if_neg e]at a
    rw[if_neg i]at c
    exact h.inj y z m a c
def Rel(es:List (Nat×Nat))(tl:List (Option Nat))(u v i k x:Nat):Prop:=k<i/\InP tl u v k/\At (es.getD k (0,0)) x
theorem Rel.skip{es}{tl}{u v i}(h:¬InP tl u v i)(k x):Rel es tl u v i k x↔Rel es tl u v (i+1) k x:=by
 constructor
 ·rintro⟨a,b,c⟩;exact⟨by omega,b,c⟩
 ·rintro⟨a,b,c⟩
  by_cases e:k=i
  ·grind
  ·exact⟨by omega,b,c⟩
theorem Rel.take{es}{tl}{u v i}(h:InP tl u v i)(k x):((Rel es tl u v i k x\/(k=i/\x=(es.getD i (0,0)).1))\/(k=i/\x=(es.getD i (0,0)).2))↔Rel es tl u v (i+1) k x:=by
 constructor
 ·rintro((⟨a,b,c⟩|⟨rfl,rfl⟩)|⟨rfl,rfl⟩)
  ·exact⟨by omega,b,c⟩
  ·exact⟨by omega,h,.inl rfl⟩
  ·exact⟨by omega,h,.inr rfl⟩
 ·rintro⟨a,b,c⟩
  by_cases e:k=i
  ·subst e
   rcases c with rfl|rfl
   ·grind
   ·grind
  ·exact .inl (.inl ⟨by omega,b,c⟩)
def RJ(es:List (Nat×Nat))(tl:List (Option Nat))(u v i:Nat):Nat->Nat->Nat->Prop
 |0=>Rel es tl u v i
 |1=>fun k x=>Rel es tl u v i k x\/(k=i/\x=(es.getD i (0,0)).1)
 |_=>fun k x=>(Rel es tl u v i k x\/(k=i/\x=(es.getD i (0,0)).1))\/(k=i/\x=(es.getD i (0,0)).2)
section
variable{P:Program}{w:World}{K:PySem.W.Frag}{mg:Str->Option Value}{base:Heap}
abbrev sTt:Stmt:=top 8
abbrev nTt:List Str:=["net","tints","one","other","found","tie","tint","point"]
inductive spTt(vs:List V)(H:Hp)(Q:VK)(_z3:XK):Prop
 |mk (p r:Addr) (n:Nat) (q:Addr) (ts:List V) (es:List (Nat×Nat)) (tl:List (Option Nat)) (u v:Nat) (_:vs=[.ref p,.ref r,.int u,.int v]) (_:NetZ H p n q ts es) (_:H r=some (.tup (tv tl))) (_:tl.length=es.length) (_:∀H' d kvs,Rows H H' d kvs (Rel es tl u v es.length) 1000->Q (.ref d) H')
theorem scTt:Zr nTt ["net","tints","one","other"] (Zh sTt):=⟨rfl,rfl,rfl,by decide+kernel,rfl,by decide+kernel,by decide+kernel⟩
theorem ZjS{f}{fd}(F:Fun K "two_tinted" "two_tinted" sTt f fd)(T:Bi mg)(hen:mg "enumerate"=none):FnOk P w K mg base CX0 1 f fd ["net","tints","one","other"] spTt:=by
 refine F.ok scTt (fun vs H Q E h=>?_) (fun cdv A outer s H vs Q E hr h=>?_)
 ·obtain⟨p,r,n,q,ts,es,tl,u,v,rfl,_⟩:=h
  rfl
 ·obtain⟨p,r,n,qa,ts,es,tl,u,v,rfl,N,hR,htl,q⟩:=h
  refine⟨_,Zb (Zj (i:=4) scTt.nd rfl (Or.inl rfl) ZcC)
   (Zb (ZL PassesOwn.never rfl (ZdR rfl hen (Zc (pv 1) Za) rfl) (YB rfl (Zy (Zq (i:=5) scTt.nd rfl (Or.inl rfl)) (Zy (Zq (i:=6) scTt.nd rfl (Or.inl rfl)) Ya)))
    (Zg (Z0 (PW.pt (pw_or (Zm ZI (pv 6) (pv 2) (Zv _)) (pw_or1 (Zm ZI (pv 6) (pv 3) (Zv _)))))
     (Zg (ZL PassesOwn.never rfl (Yu (Zl Zo (Zl Zo (pv 0) Ze (fun _ _=>rfl)) (pv 5) (fun _ _=>rfl))) (Zq (i:=7) scTt.nd rfl (Or.inl rfl))
      (Zg (ZH (YT PySem.F.plainAttrs_list PySem.F.slot_list_append PySem.F.type_list_append ZX (Zf1 (pv 4) (pv 7) (Yd Za) ⟨rfl,rfl,rfl,rfl⟩) (Zc (pv 5) Za)))))) Zt)))
   (Zg (Zs (pv 4)))),?_⟩
  have h200:=N.l200
  intro d hd
  have R0:Rows H (upd H d (.dK [])) d [] (Rel es tl u v 0) 0:=⟨Zd,hd,Zi hd,Nat.le_refl _,(fun x v z=>by cases z),fun x _ k z=>absurd z.1 (Nat.not_lt_zero _),fun x y l z=>by cases z⟩
  have step:∀(G)(B)(R)(b i x)(w6)(Qp),b<=900->Rows H G d B R b->
    (∀v G' kvs',Rows H G' d kvs' (fun k y=>R k y\/(k=i/\y=x)) (b+2)->Qp v G')->
    tBM K "list" rAppend (Zca (Ja 4) (Ja 7) (ZgE tNil)) (ZbA (Ja 5) tNil) [some (.ref p),some (.ref r),some (.int u),some (.int v),some (.ref d),some (.int i),w6,some (.int x)] G Qp:=by
   refine fun G B R b i x w6 Qp hb RR fin=>⟨_,rfl,d,rfl,.inl ⟨B,.inl RR.dd⟩,_,rfl,Nat.zero_le _,fun l hl=>⟨B,kN x,Zi hl _ _ RR.dd,rfl,by have:=RR.len;omega,fun y hy=>?_,fun hn=>?_⟩⟩
   ·have RR1:=RR.same (Zi (o:= .lst []) hl)
    obtain⟨l2,ks,rfl,a2,a3,a4,a5⟩:=RR1.row x y hy
    refine⟨.inl ⟨rfl,_,SqL.of a3⟩,_,rfl,l2,_,_,rfl,rfl,a3,(by rw[nl_len,sizeLine_eq];omega),fin _ _ B ?_⟩
    rw[nl_app]
    exact(RR1.add hy a3 a4 a5 a2).mono (by omega)
   ·have RR1:=RR.same (Zi (o:= .lst []) hl)
    have hl0:=RR.s.none hl
    have RR2:=RR1.new (l:=l) hn Zd hl0 fun y z=>by
     obtain⟨l2,ks,e1,a2,a3,_⟩:=RR.row y _ z
     cases e1
     rw[a3]at hl
     cases hl
    have hL:(upd (upd G l (.lst [])) d (.dK (putK B (kN x) (.ref l)))) l=some (.lst (nl [])):=by rw[Zf (show l≠d from fun z=>by rw[z,RR.dd]at hl;cases hl),Zd];rfl
    refine⟨.inl ⟨rfl,_,SqL.of hL⟩,_,rfl,l,_,_,rfl,rfl,hL,(by rw[nl_len,sizeLine_eq];exact Nat.lt_of_lt_of_le (by decide) (Nat.le_refl _)),fin _ _ (putK B (kN x) (.ref l)) ?_⟩
    rw[nl_app]
    exact RR2.add (by rw[YQ,if_pos rfl]) hL (fun k=>⟨fun z=>(by cases z),fun z=>absurd z (RR.no x hn k)⟩) (Nat.zero_le _) hl0
  refine⟨_,rfl,r,rfl,⟨_,SqT.of (R0.s _ _ hR)⟩,Zga (K:=K) (a:=r) (xs:=tv tl) (fun i σ H'=>∃B v5 v6 v7,σ=[some (.ref p),some (.ref r),some (.int u),some (.int (v:Int)),some (.ref d),v5,v6,v7]/\Rows H H' d B (Rel es tl u v i) (4*i)) ⟨[],_,_,_,rfl,R0⟩ (fun i σ H' _⟨B,_,_,_,_,RR⟩=>SqT.of (RR.s _ _ hR)) (fun i x σ H' hx xq1 TT H1 s1 hTT=>?_) (fun σ H' xq1=>?_)⟩
  ·obtain⟨B,v5,v6,v7,e,RR⟩:=xq1
   subst e
   obtain⟨o,ho,rfl⟩:=Jk hx
   have hit:=(List.getElem?_eq_some_iff.mp ho).1
   obtain⟨a,ha,hta⟩:=N.at' (show i<es.length by omega)
   have RR1:=RR.same s1
   refine⟨TT,_,rfl,SqT.of hTT,rfl,_,_,rfl,_,_,rfl,rfl,?_⟩
   have inner:∀(t:Nat)(Dn:Ends),InP tl u v i->(∀G B v7,Rows H G d B (Rel es tl u v (i+1)) (4*(i+1))->Dn.nx [some (.ref p),some (.ref r),some (.int (u:Int)),some (.int (v:Int)),some (.ref d),some (.int (i:Int)),some (.int (t:Int)),v7] G)->
     Zj2 (ZkE K (tOp (Zfr K) (tOp (Zfr K) (Ja 0) (tC (.int 1))) (Ja 5))) (JY 7) (fun D σ H=>tBM K "list" rAppend (Zca (Ja 4) (Ja 7) (ZgE tNil)) (ZbA (Ja 5) tNil) σ H fun _ H'=>D.nx σ H') Dn [some (.ref p),some (.ref r),some (.int (u:Int)),some (.int (v:Int)),some (.ref d),some (.int (i:Int)),some (.int (t:Int)),v7] H1:=by
    refine fun t Dn hin fin=>⟨_,rfl,p,_,_,_,rfl,rfl,SqT.of (RR1.s _ _ N.e1),rfl,_,rfl,qa,_,_,_,rfl,rfl,SqT.of (RR1.s _ _ N.e2),Z3 ha,a,rfl,⟨_,SqT.of (RR1.s _ _ hta)⟩,Yt (K:=K) (a:=a) (xs:=[.int ((es.getD i (0,0)).1:Int),.int ((es.getD i (0,0)).2:Int)]) (g:=JY 7) (tb:=fun D σ H=>tBM K "list" rAppend (Zca (Ja 4) (Ja 7) (ZgE tNil)) (ZbA (Ja 5) tNil) σ H fun _ H'=>D.nx σ H') (D:=Dn)
     (fun j σ G=>∃kvs' w7,σ=[some (.ref p),some (.ref r),some (.int (u:Int)),some (.int (v:Int)),some (.ref d),some (.int (i:Int)),some (.int (t:Int)),w7]/\Rows H G d kvs' (RJ es tl u v i j) (4*i+2*j))
     ⟨B,_,rfl,RR1⟩ (fun j σ G _⟨_,_,_,RG⟩=>SqT.of (RG.s _ _ hta)) (fun j x σ G hx' xq1=>?_) (fun σ G xq1=>?_)⟩
    ·obtain⟨kvs',w7,e,RG⟩:=xq1
     subst e
     match j,hx' with
     |0,hx'=>
      cases hx'
      exact step G kvs' _ (4*i+2*0) i _ _ _ (by omega) RG fun _ G' kvs2 R2=>⟨kvs2,_,rfl,R2⟩
     |1,hx'=>
      cases hx'
      exact step G kvs' _ (4*i+2*1) i _ _ _ (by omega) RG fun _ G' kvs2 R2=>⟨kvs2,_,rfl,R2⟩
    ·obtain⟨kvs',w7,e,RG⟩:=xq1
     subst e
     exact fin G kvs' _ ((RG.iff fun k x=>Rel.take hin k x).mono (by show 4*i+2*2<=4*(i+1);omega))
   cases o with
   |none=>
    have hnot:¬InP tl u v i:=fun z=>by rcases z with z|z<;>rw[ho]at z<;>cases z
    exact⟨_,rfl,_,rfl,rfl,_,rfl,ZD ⟨_,rfl,_,rfl,rfl,_,rfl,ZD ⟨B,_,_,_,rfl,(RR1.iff (Rel.skip hnot)).mono (by omega)⟩⟩⟩
   |some t=>
    refine⟨_,rfl,_,rfl,rfl,_,rfl,ZF (fun hz=>?_) (fun hz=>?_)⟩
    ·have e:t=u:=by have:=V.int.inj (of_decide_eq_true hz);omega
     subst e
     exact YA (inner t _ (.inl ho) fun G kvs2 w7 R2=>⟨kvs2,_,_,_,rfl,R2⟩)
    ·refine⟨_,rfl,_,rfl,rfl,_,rfl,ZF (fun hz2=>?_) (fun hz2=>?_)⟩
     ·have e:t=v:=by have:=V.int.inj (of_decide_eq_true hz2);omega
      subst e
      exact inner t _ (.inr ho) fun G kvs2 w7 R2=>⟨kvs2,_,_,_,rfl,R2⟩
     ·have hnot:¬InP tl u v i:=fun z=>by
       rcases z with z|z<;>rw[ho]at z<;>have:=Option.some.inj (Option.some.inj z)
       ·exact(show t≠u from fun z=>hz (decide_eq_true (by subst z;rfl))) this
       ·exact(show t≠v from fun z=>hz2 (decide_eq_true (by subst z;rfl))) this
      exact⟨B,_,_,_,rfl,(RR1.iff (Rel.skip hnot)).mono (by omega)⟩
  ·obtain⟨B,v5,v6,v7,e,RR⟩:=xq1
   subst e
   rw[Yp,htl]at RR
   exact⟨_,rfl,q H' d B (RR.mono (by omega))⟩
end
theorem Walk.init{es:List (Nat×Nat)}{tl:List (Option Nat)}{u v p}:Walk es tl u v p (·∈([]:List Nat)) (fun _=>False) (·∈[p]):=
 ⟨(fun k h=>by cases h),(fun x h=>by rw[List.mem_singleton.mp h];exact .start),(fun x h=>h.elim),(fun k h=>by cases h),.inr (List.mem_singleton.mpr rfl)⟩
theorem Walk.pop{es:List (Nat×Nat)}{tl:List (Option Nat)}{u v p x}{F V:Nat->Prop}{w':List _}(h:Walk es tl u v p F V (·∈w'++[x])):Walk es tl u v p F V (fun y=>y∈w'\/y=x):=by
 simp_all
theorem Walk.add{es:List (Nat×Nat)}{tl:List (Option Nat)}{u v p x k}{fk wl:List _}{V:Nat->Prop}(h:Walk es tl u v p (·∈fk) V (fun y=>y∈wl\/y=x)) (hk:k<es.length) (hi:InP tl u v k) (hx:At (es.getD k (0,0)) x):
  Walk es tl u v p (·∈fk++[k]) V (fun y=>y∈wl++[oth (es.getD k (0,0)) x]\/y=x):=by
 have g:RT es tl u v p k:=⟨hk,hi,x,(h.rw x (.inr rfl)),hx⟩
 refine⟨fun j c=>?_,fun y a=>?_,fun y a j d i f=>List.mem_append_left _ (h.cl y a j d i f),fun j c y a=>?_,h.st.imp id fun z=>z.imp (List.mem_append_left _) id⟩
 ·rcases List.mem_append.mp c with z|z
  ·exact h.rt j z
  simp_all
 ·rcases a with a|a
  ·rcases List.mem_append.mp a with z|z
   ·exact h.rw y (.inl z)
   ·rw[List.mem_singleton.mp z];exact g.end (ZiB _ _)
  ·exact h.rw y (.inr a)
 ·rcases List.mem_append.mp c with z|z
  ·exact(h.en j z y a).imp id fun z=>z.imp (List.mem_append_left _) id
  ·rw[List.mem_singleton.mp z]at a
   rcases Zjk hx a with e|e
   ·exact .inr (.inr e)
   ·grind
theorem Walk.close{es:List (Nat×Nat)}{tl:List (Option Nat)}{u v p x}{F V:Nat->Prop}{wl:List _}(h:Walk es tl u v p F V (fun y=>y∈wl\/y=x)) (hx:∀k,k<es.length->InP tl u v k->At (es.getD k (0,0)) x->F k):
  Walk es tl u v p F (fun y=>V y\/y=x) (·∈wl):=by
 refine⟨h.rt,fun y b=>h.rw y (.inl b),fun y b k e f d=>?_,fun k g y b=>?_,?_⟩
 ·rcases b with b|rfl
  ·exact h.cl y b k e f d
  ·exact hx k e f d
 ·rcases h.en k g y b with z|z|z
  ·exact .inl (.inl z)
  ·exact .inr z
  ·exact .inl (.inr z)
 ·rcases h.st with z|z|z
  ·exact .inl (.inl z)
  ·exact .inr z
  ·exact .inl (.inr z)
theorem vin{kf:List (Key×V)}{fk:List _}(h:kf.map (·.1)=fk.map kN)(k:Nat):(ZP kf (kN k)).isSome=true↔k∈fk:=by
 rw[<-YR,List.any_eq_true]
 constructor
 ·rintro⟨c,b,e⟩
  have:c.1∈fk.map kN:=by grind
  obtain⟨j,g,d⟩:=List.mem_map.mp this
  rw[(of_decide_eq_true e)]at d
  rw[<-ZfN d]
  exact g
 ·intro f
  have:kN k∈kf.map (·.1):=by rw[h];exact List.mem_map_of_mem f
  obtain⟨c,b,e⟩:=List.mem_map.mp this
  exact⟨c,b,decide_eq_true e⟩
theorem Zbd{l:List _}{n:Nat}(nd:l.Nodup)(h:∀x∈l,x<n):l.length<=n:=by
 have a:∀(n:Nat)(l:List _),l.Nodup->(∀x∈l,x<n)->l.length<=n:=by
  intro n
  induction n with
  |zero=>intro l _ h;cases l with|nil=>exact Nat.le_refl _|_ x l=>exact absurd (h x (.head _)) (Nat.not_lt_zero _)
  |_ n b=>
   intro l nd h
   have _:=b _ (nd.erase n) fun x _=>by
    grind
   grind
 exact a n l nd h
structure ZeU(Ht G:Hp)(fo wa:Addr)(m:Nat)(fk wl:List Nat):Prop where
 s:Same Ht G
 w:G wa=some (.lst (nl wl))
 f:∃kf:List (Key×V),G fo=some (.dK kf)/\kf.map (·.1)=fk.map kN
 nd:fk.Nodup
 lt:∀k∈fk,k<m
 bd:2*(m-fk.length)+wl.length<=2*m+1
section
variable{P:Program}{w:World}{K:PySem.W.Frag}{mg:Str->Option Value}{base:Heap}
abbrev sCh:Stmt:=top 9
abbrev nCh:List Str:=["net","tints","point","one","other","ties","found","waiting","here","tie"]
inductive spCh(vs:List V)(H:Hp)(Q:VK)(_z3:XK):Prop
 |mk (p r:Addr) (n:Nat) (q:Addr) (ts:List V) (es:List (Nat×Nat)) (tl:List (Option Nat)) (pt u v:Nat) (_:vs=[.ref p,.ref r,.int (pt:Int),.int (u:Int),.int (v:Int)]) (_:NetZ H p n q ts es) (_:H r=some (.tup (tv tl))) (_:tl.length=es.length) (_:es.length<64) (_:∀H' t S,Same H H'->H' t=some (.tup (nl S))->S.Pairwise (·<·)->(∀k,k∈S↔RT es tl u v pt k)->Q (.ref t) H')
theorem scCh:Zr nCh ["net","tints","point","one","other"] (Zh sCh):=⟨rfl,rfl,rfl,by decide+kernel,rfl,by decide+kernel,by decide+kernel⟩
theorem Zks{f}{fd}(F:Fun K "chain" "chain" sCh f fd)(T:Bi mg)(hso:mg "sorted"=none)(FT:FnE P w K mg base "two_tinted" ["net","tints","one","other"] 1 spTt)(FA:FnE P w K mg base "across" ["net","tie","point"] 1 spAc):FnOk P w K mg base CX0 2 f fd ["net","tints","point","one","other"] spCh:=by
 refine F.ok scCh (fun vs H Q E h=>?_) (fun cdv A outer s H vs Q E hr h=>?_)
 ·obtain⟨p,r,n,q,ts,es,tl,pt,u,v,rfl,_⟩:=h
  rfl
 ·obtain⟨p,r,n,qa,ts,es,tl,pt,u,v,rfl,N,hR,htl,h64,q⟩:=h
  have hu:=ZdZ hr
  refine⟨_,Zb (Zj (i:=5) scCh.nd rfl (Or.inl rfl) (Zw FT hr (Zc (pv 0) (Zc (pv 1) (Zc (pv 3) (Zc (pv 4) Za))))))
   (Zb (Zj (i:=6) scCh.nd rfl (Or.inl rfl) ZcC)
   (Zb (Zj (i:=7) scCh.nd rfl (Or.inl rfl) (Yd (Zc (pv 2) Za)))
   (Zb (Jp PassesOwn.never (ZcA (pv 7) (fun _=>rfl))
    (Zb (Zj (i:=8) scCh.nd rfl (Or.inl rfl) (Zi9 PySem.F.plainAttrs_list PySem.F.slot_list_pop PySem.F.type_list_pop ZiR (pv 7)))
    (Zg (ZL PassesOwn.never rfl (JS (Zf2 hu (pv 5) (pv 8) (Yd Za) ⟨rfl,rfl,rfl,rfl⟩)) (Zq (i:=9) scCh.nd rfl (Or.inl rfl))
     (Zg (Z0 (JE (J0 hu (pv 9) (pv 6)))
      (Zb (Jz hu (pv 6) (pv 9) ZE rfl)
      (Zg (ZH (YT PySem.F.plainAttrs_list PySem.F.slot_list_append PySem.F.type_list_append ZX (pv 7) (Zc (Zw FA hr (Zc (pv 0) (Zc (pv 9) (Zc (pv 8) Za)))) Za))))) Zt))))))
   (Zg (Zs (Z1 Z7 rfl T.tuple Yl (Zc (Zn (Zcs hr) rfl hso Zh2 (Zc (pv 6) Za)) Za))))))),_,rfl,_,rfl,_,rfl,_,rfl,p,r,n,qa,ts,es,tl,u,v,rfl,N,hR,htl,fun Ht d kvs RW=>(fun fo hfo=>⟨_,rfl,(by show 1<=sizeLine;decide),fun wa hwa=>?_⟩)⟩
  have hwt:=(show∀{wa:Addr},(upd Ht fo (.dK [])) wa=none->Ht wa=none from fun h=>(Zi hfo).none h) hwa
  have hfw:fo≠wa:=fun z=>by rw[<-z,Zd]at hwa;cases hwa
  refine⟨fun m σ H'=>∃fk wl V v8 v9,m=2*(es.length-fk.length)+wl.length/\σ=[some (.ref p),some (.ref r),some (.int (pt:Int)),some (.int (u:Int)),some (.int (v:Int)),some (.ref d),some (.ref fo),some (.ref wa),v8,v9]/\ZeU Ht H' fo wa es.length fk wl/\Walk es tl u v pt (·∈fk) V (·∈wl),
   ⟨_,[],[pt],_,none,none,rfl,rfl,(show ZeU Ht (upd (upd Ht fo (.dK [])) wa (.lst [.int (pt:Int)])) fo wa es.length [] [pt]from⟨(Zi hfo).wr hwt,by rw[Zd];rfl,⟨[],by rw[Zf hfw,Zd],rfl⟩,List.nodup_nil,(fun k hk=>by cases hk),Nat.le_refl _⟩),Walk.init⟩,?_⟩
  rintro m σ H' ⟨fk,wl,VV,v8,v9,rfl,rfl,C,WW⟩
  have hfl:=Zbd C.nd C.lt
  refine⟨_,rfl,_,.inl ⟨_,SqL.of C.w,rfl⟩,ZF (fun hz=>?_) (fun hz=>?_)⟩
  ·obtain⟨w',x,rfl⟩:∃w' x,wl=w'++[x]:=by
    rcases List.eq_nil_or_concat wl with e|⟨w',x,e⟩
    ·subst e;cases hz
    ·exact⟨w',x,by rw[e,List.concat_eq_append]⟩
   have hwl:nl (w'++[x])=nl w'++[.int (x:Int)]:=(nl_app w' x).symm
   refine⟨fun σ' H''=>∃m',m'<2*(es.length-fk.length)+(w'++[x]).length/\∃fk wl V v8 v9,m'=2*(es.length-fk.length)+wl.length/\σ'=[some (.ref p),some (.ref r),some (.int (pt:Int)),some (.int (u:Int)),some (.int (v:Int)),some (.ref d),some (.ref fo),some (.ref wa),v8,v9]/\ZeU Ht H'' fo wa es.length fk wl/\Walk es tl u v pt (·∈fk) V (·∈wl),fun _ _ h=>h,_,rfl,.inl ⟨rfl,_,SqL.of C.w⟩,wa,_,.int (x:Int),rfl,rfl,C.w,(by rw[hwl,List.length_append,List.length_singleton,Nat.add_sub_cancel,List.getElem?_append_right (Nat.le_refl _),Nat.sub_self];rfl),?_⟩
   rw[(show(nl (w'++[x])).dropLast=nl w' by rw[hwl,List.dropLast_concat])]
   obtain⟨kf0,hkf0,hkk0⟩:=C.f
   have C1:ZeU Ht (upd H' wa (.lst (nl w'))) fo wa es.length fk w':=⟨C.s.wr hwt,Zd,⟨kf0,by rw[Zf hfw];exact hkf0,hkk0⟩,C.nd,C.lt,(by have:=C.bd;rw[List.length_append]at this;omega)⟩
   have hd1:=C1.s _ _ RW.dd
   refine⟨_,rfl,d,rfl,.inl ⟨kvs,.inl hd1⟩,_,rfl,Nat.zero_le _,fun l0 hl0=>⟨_,DGet.k (k:=kN x) (Zi hl0 _ _ hd1),?_⟩⟩
   have s0:Same (upd H' wa (.lst (nl w'))) (upd (upd H' wa (.lst (nl w'))) l0 (.lst [])):=Zi hl0
   obtain⟨la,ks,hval,hla,hks,hlw,hlf⟩:∃la ks,(ZP kvs (kN x)).getD (V.ref l0)= .ref la/\(upd (upd H' wa (.lst (nl w'))) l0 (.lst [])) la=some (.lst (nl ks))/\(∀k,k∈ks↔Rel es tl u v es.length k x)/\la≠wa/\la≠fo:=by
    cases hv:ZP kvs (kN x)with
    |none=>
     refine⟨l0,[],rfl,Zd,fun k=>⟨fun z=>(by cases z),fun z=>absurd z (RW.no x hv k)⟩,fun z=>?_,fun z=>?_⟩
     ·rw[z,C1.w]at hl0;cases hl0
     ·obtain⟨kf,a,_⟩:=C1.f
      rw[z,a]at hl0;cases hl0
    |some y=>
     obtain⟨l2,ks,rfl,_,a3,a4,_⟩:=RW.row x y hv
     exact⟨l2,ks,rfl,s0 _ _ (C1.s _ _ a3),a4,Zk a3 hwt,Zk a3 hfo⟩
   rw[hval]
   refine⟨la,rfl,⟨_,SqL.of hla⟩,Jv (K:=K) (a:=la) (xs:=nl ks) (fun j σ G=>∃o wl' w9,σ=[some (.ref p),some (.ref r),some (.int (pt:Int)),some (.int (u:Int)),some (.int (v:Int)),some (.ref d),some (.ref fo),some (.ref wa),some (.int (x:Int)),w9]/\ZeU Ht G fo wa es.length o wl'/\G la=some (.lst (nl ks))/\Walk es tl u v pt (·∈o) VV (fun y=>y∈wl'\/y=x)/\(∀j' k,j'<j->ks[j']?=some k->k∈o)/\2*(es.length-o.length)+wl'.length<=2*(es.length-fk.length)+w'.length)
    ⟨fk,w',_,rfl,(show ZeU Ht (upd (upd H' wa (.lst (nl w'))) l0 (.lst [])) fo wa es.length fk w' from⟨Same.trans C1.s s0,s0 _ _ C1.w,(let⟨kf,a,b⟩:=C1.f;⟨kf,s0 _ _ a,b⟩),C1.nd,C1.lt,C1.bd⟩),hla,WW.pop,(fun j' k z=>absurd z (Nat.not_lt_zero _)),Nat.le_refl _⟩ (fun j σ G _⟨_,_,_,_,_,z,_⟩=>SqL.of z) (fun j y σ G hy xq1=>?_) (fun σ G xq1=>?_)⟩
   ·obtain⟨o,wl',w9,e,CG,gl,WG,hin,hms⟩:=xq1
    subst e
    obtain⟨k,hk,rfl⟩:∃k,ks[j]?=some k/\y=V.int (k:Int):=by
     unfold nl at hy
     rw[List.getElem?_map]at hy
     cases z:ks[j]? with
     |none=>rw[z]at hy;cases hy
     |some k=>rw[z]at hy;cases hy;exact⟨k,rfl,rfl⟩
    obtain⟨hke,hkp,hkx⟩:=(hks k).mp (List.mem_of_getElem? hk)
    obtain⟨kf,hkf,hkk⟩:=CG.f
    have hkl:kf.length=o.length:=by have:=congrArg List.length hkk;simpa using this
    refine⟨_,rfl,_,rfl,fo,_,rfl,DGet.k (k:=kN k) hkf,_,rfl,ZF (fun hz=>?_) (fun hz=>?_)⟩
    ·have hno:k ∉ o:=fun z=>by rw[(vin hkk k).mpr z]at hz;cases hz
     have hnone:ZP kf (kN k)=none:=by
      cases z:ZP kf (kN k)with
      |none=>rfl
      |some y=>rw[z]at hz;cases hz
     have hnd:(o++[k]).Nodup:=by
      rw[List.nodup_append]
      exact⟨CG.nd,List.nodup_cons.mpr ⟨List.not_mem_nil,List.nodup_nil⟩,fun a ha b hb z=>by rw[List.mem_singleton]at hb;subst hb z;exact hno ha⟩
     have hlt:∀a∈o++[k],a<es.length:=fun a ha=>by
      rcases List.mem_append.mp ha with z|z
      ·exact CG.lt a z
      ·rw[List.mem_singleton.mp z];exact hke
     have hl3:(o++[k]).length<=es.length:=Zbd hnd hlt
     rw[List.length_append,List.length_singleton]at hl3
     refine⟨_,rfl,_,rfl,fo,_,rfl,DPut.k (k:=kN k) hkf (by rw[sizeLine_eq];omega),?_⟩
     have hw3:(upd G fo (.dK (putK kf (kN k) (V.bl true)))) wa=some (.lst (nl wl')):=by rw[Zf (Ne.symm hfw)];exact CG.w
     have sN:Same H (upd G fo (.dK (putK kf (kN k) (V.bl true)))):=Same.trans RW.s (CG.s.wr hfo)
     refine⟨_,rfl,.inl ⟨rfl,_,SqL.of hw3⟩,_,rfl,_,rfl,_,rfl,p,n,qa,ts,es,k,x,rfl,N.same sN,hke,wa,_,_,rfl,rfl,hw3,(by have:=CG.bd;rw[nl_len,sizeLine_eq];omega),?_⟩
     rw[nl_app]
     refine⟨o++[k],wl'++[oth (es.getD k (0,0)) x],_,rfl,⟨(CG.s.wr hfo).wr hwt,Zd,⟨putK kf (kN k) (V.bl true),by rw[Zf hfw,Zd],by rw[Zfs _ hnone,List.map_append,hkk,List.map_append];rfl⟩,hnd,hlt,(by have:=CG.bd;rw[List.length_append,List.length_append,List.length_singleton,List.length_singleton];omega)⟩,by rw[Zf hlw,Zf hlf];exact gl,WG.add hke hkp hkx,fun j' k' hj' hk'=>?_,?_⟩
     ·by_cases e:j'=j
      ·subst e
       rw[hk]at hk'
       cases hk'
       exact List.mem_append_right _ (List.mem_singleton.mpr rfl)
      ·exact List.mem_append_left _ (hin j' k' (by omega) hk')
     ·rw[List.length_append,List.length_append,List.length_singleton,List.length_singleton]
      omega
    ·have hyes:k∈o:=(vin hkk k).mp (by
      cases z:(ZP kf (kN k)).isSome with
      |true=>rfl
      |false=>rw[z]at hz;exact absurd rfl hz)
     refine⟨o,wl',_,rfl,CG,gl,WG,fun j' k' hj' hk'=>?_,hms⟩
     by_cases e:j'=j
     ·subst e
      rw[hk]at hk'
      cases hk'
      exact hyes
     ·exact hin j' k' (by omega) hk'
   ·obtain⟨o,wl',w9,e,CG,gl,WG,hin,hms⟩:=xq1
    subst e
    refine⟨_,?_,o,wl',_,_,_,rfl,rfl,CG,WG.close fun k h1 h2 h3=>?_⟩
    ·rw[List.length_append,List.length_singleton]
     omega
    ·obtain⟨j,hj,ej⟩:=List.getElem_of_mem ((hks k).mpr ⟨h1,h2,h3⟩)
     exact hin j k (by rw[nl_len];exact hj) (by rw[List.getElem?_eq_getElem hj,ej])
  ·have hwl:wl=[]:=by
    cases wl with
    |nil=>rfl
    |cons x l=>exact absurd rfl hz
   subst hwl
   obtain⟨kf,hkf,hkk⟩:=C.f
   have hdone:=WW.done (fun x hx=>by cases hx)
   have hkn:kf.map (·.1)=(fk.map fun x:Nat=>(x:Int)).map Sum.inl:=by rw[hkk,List.map_map];rfl
   refine⟨_,rfl,fo,kf,fk.map fun x:Nat=>(x:Int),rfl,hkf,hkn,by rw[List.length_map];omega,fun l ns' H2 s2 hl2 hp hs=>⟨l,_,rfl,.inl hl2,fun t H3 s3 ht=>?_⟩⟩
   have hnn:∀x∈ns',0<=x:=fun x hx=>by
    obtain⟨y,_,rfl⟩:=List.mem_map.mp (hp.mem_iff.mp hx)
    omega
   have hnl:ns'.map V.int=nl (ns'.map Int.toNat):=by
    unfold nl
    rw[List.map_map]
    refine List.map_congr_left fun x hx=>?_
    show V.int x=V.int ((x.toNat:Nat):Int)
    rw[Int.toNat_of_nonneg (hnn x hx)]
   have hmem:∀k:Nat,k∈ns'.map Int.toNat↔k∈fk:=fun k=>by
    rw[List.mem_map]
    constructor
    ·rintro⟨x,hx,rfl⟩
     obtain⟨y,hy,rfl⟩:=List.mem_map.mp (hp.mem_iff.mp hx)
     exact hy
    ·exact fun hk=>⟨(k:Int),hp.mem_iff.mpr (List.mem_map_of_mem (f:=fun x:Nat=>(x:Int)) hk),rfl⟩
   have hndI:ns'.Nodup:=hp.nodup_iff.mpr (by
    rw[List.Nodup,List.pairwise_map]
    exact List.Pairwise.imp (fun{a b} h z=>h (by omega)) C.nd)
   have hrise:(ns'.map Int.toNat).Pairwise (·<·):=by
    rw[List.pairwise_map]
    refine List.Pairwise.imp_of_mem (fun{a b} ha hb h=>?_) (hs.and hndI)
    have:=hnn a ha
    have:=hnn b hb
    omega
   rw[hnl]at ht
   exact q H3 t _ (Same.trans (Same.trans (Same.trans RW.s C.s) s2) s3) ht hrise fun k=>(hmem k).trans (hdone k)
end
def swp(tl:List (Option Nat))(u v k:Nat):Option Nat:=some (if tl.getD k none=some u then v else u)
def trn(tl:List (Option Nat))(u v:Nat)(S:List Nat):List (Option Nat):=S.foldl (fun r k=>r.set k (swp tl u v k)) tl
theorem JK(tl:List (Option Nat))(u v:Nat)(S:List Nat):(trn tl u v S).length=tl.length:=by
 unfold trn
 have key:∀(S:List Nat)(r:List (Option Nat)),(S.foldl (fun r k=>r.set k (swp tl u v k)) r).length=r.length:=by
  intro S
  induction S with
  |nil=>intro r;rfl
  |cons k S ih=>intro r;rw[List.foldl_cons,ih,List.length_set]
 exact key S tl
theorem Zfd(tl:List (Option Nat))(u v:Nat)(S:List Nat)(k:Nat):trn tl u v (S++[k])=(trn tl u v S).set k (swp tl u v k):=by
 unfold trn;rw[List.foldl_append];rfl
theorem ZdK(tl:List (Option Nat))(u v:Nat)(S:List Nat)(k:Nat):(trn tl u v S)[k]?=if k∈S/\k<tl.length then some (swp tl u v k)else tl[k]?:=by
 have key:∀(S:List Nat)(r:List (Option Nat)),r.length=tl.length->(S.foldl (fun r k=>r.set k (swp tl u v k)) r)[k]?=if k∈S/\k<tl.length then some (swp tl u v k)else r[k]?:=by
  intro S
  induction S with
  |nil=>intro r _;rw[if_neg (fun z=>by cases z.1)];rfl
  |cons j S ih=>
   intro r hr
   rw[List.foldl_cons,ih _ (by rw[List.length_set];exact hr)]
   by_cases h1:k∈S/\k<tl.length
   ·rw[if_pos h1,if_pos ⟨.tail _ h1.1,h1.2⟩]
   ·rw[if_neg h1,List.getElem?_set]
    by_cases e:j=k
    ·subst e
     by_cases hl:j<tl.length
     ·rw[if_pos rfl,if_pos (by omega),if_pos ⟨.head _,hl⟩]
     ·rw[if_pos rfl,if_neg (by omega),if_neg (fun z=>hl z.2),List.getElem?_eq_none (by omega)]
    ·rw[if_neg e,if_neg]
     rintro⟨z,hl⟩
     rcases List.mem_cons.mp z with z|z
     ·exact e z.symm
     ·exact h1 ⟨z,hl⟩
 exact key S tl rfl
theorem Zfb(tl:List (Option Nat))(k:Nat)(o:Option Nat):(tv tl).set k (tN o)=tv (tl.set k o):=by unfold tv;rw[List.map_set]
section
variable{es:List (Nat×Nat)}{tl:List (Option Nat)}{u v p:Nat}{S:List Nat}
theorem Ju{k:Nat}{o:Option Nat}(h:tl[k]?=some o):tl.getD k none=o:=by rw[List.getD_eq_getElem?_getD,h];rfl
theorem ZaJ{k:Nat}(h:tl[k]?=some (some u)):swp tl u v k=some v:=by unfold swp;rw[Ju h,if_pos rfl]
theorem ZaI{k:Nat}(huv:u≠v)(h:tl[k]?=some (some v)):swp tl u v k=some u:=by
 unfold swp;rw[Ju h,if_neg fun z=>huv (Option.some.inj z).symm]
theorem ZkD{k:Nat}(h:InP tl u v k):k<tl.length:=by
 rcases h with h|h<;>exact(List.getElem?_eq_some_iff.mp h).1
theorem YZ{k:Nat}(h:k∈S)(hi:InP tl u v k):(trn tl u v S)[k]?=some (swp tl u v k):=by rw[ZdK,if_pos ⟨h,ZkD hi⟩]
theorem Y0{k:Nat}(h:k ∉ S):(trn tl u v S)[k]?=tl[k]?:=by rw[ZdK,if_neg fun z=>h z.1]
theorem Zco(huv:u≠v)(hS:∀k∈S,InP tl u v k) (k:Nat):InP (trn tl u v S) u v k↔InP tl u v k:=by
 by_cases h:k∈S
 ·have hi:=hS k h
  refine⟨fun _=>hi,fun _=>?_⟩
  rcases hi with e|e
  ·exact .inr (by rw[YZ h (.inl e),ZaJ e])
  ·exact .inl (by rw[YZ h (.inr e),ZaI huv e])
 ·unfold InP
  rw[Y0 h]
theorem Zb8(huv:u≠v)(hS:∀k,k∈S↔RT es tl u v p k) (hc:CleanTo es tl es.length):CleanTo es (trn tl u v S) es.length:=by
 have hI:∀k∈S,InP tl u v k:=fun k hk=>((hS k).mp hk).2.1
 have mix:∀i j t,i∈S->j ∉ S->j<es.length->(trn tl u v S)[i]?=some (some t)->(trn tl u v S)[j]?=some (some t)->∀x,At (es.getD i (0,0)) x->¬At (es.getD j (0,0)) x:=by
  intro i j t hi hj hjl ei ej x hx hy
  have e1:InP (trn tl u v S) u v i:=(Zco huv hI i).mpr (hI i hi)
  have ht:t=u\/t=v:=by
   rcases e1 with e|e
   ·rw[ei]at e;exact .inl (Option.some.inj (Option.some.inj e))
   ·rw[ei]at e;exact .inr (Option.some.inj (Option.some.inj e))
  have e2:InP tl u v j:=by
   rw[Y0 hj]at ej
   rcases ht with rfl|rfl
   ·exact .inl ej
   ·exact .inr ej
  exact hj ((hS j).mpr ⟨hjl,e2,x,((hS i).mp hi).end hx,hy⟩)
 intro i j t hji hi ei ej x hx hy
 by_cases h1:i∈S
 ·by_cases h2:j∈S
  ·have same:∃t',tl[i]?=some (some t')/\tl[j]?=some (some t'):=by
    rw[YZ h1 (hI i h1)]at ei
    rw[YZ h2 (hI j h2)]at ej
    rcases hI i h1 with a|a<;>rcases hI j h2 with b|b
    ·exact⟨u,a,b⟩
    ·rw[ZaJ a]at ei
     rw[ZaI huv b]at ej
     exact absurd ((Option.some.inj (Option.some.inj ej)).trans (Option.some.inj (Option.some.inj ei)).symm) huv
    ·rw[ZaI huv a]at ei
     rw[ZaJ b]at ej
     exact absurd ((Option.some.inj (Option.some.inj ei)).trans (Option.some.inj (Option.some.inj ej)).symm) huv
    ·exact⟨v,a,b⟩
   obtain⟨t',a,b⟩:=same
   exact hc i j t' hji hi a b x hx hy
  ·exact mix i j t h1 h2 (by omega) ei ej x hx hy
 ·by_cases h2:j∈S
  ·exact mix j i t h2 h1 hi ej ei x hy hx
  ·rw[Y0 h1]at ei
   rw[Y0 h2]at ej
   exact hc i j t hji hi ei ej x hx hy
end
theorem Jh{es:List (Nat×Nat)}(x:Nat):∀{S:List Nat},(∀k∈S,(es.getD k (0,0)).1≠(es.getD k (0,0)).2)->deg es S x=(S.filter fun k=>decide (x=(es.getD k (0,0)).1\/x=(es.getD k (0,0)).2)).length
 |[],_=>rfl
 |k::S,h=>by
  have ih:=Jh x (S:=S) fun k hk=>h k (.tail _ hk)
  have hne:=h k (.head _)
  show(if _ then 1 else 0)+(if _ then 1 else 0)+deg es S x=_
  rw[List.filter_cons,ih]
  by_cases e1:(es.getD k (0,0)).1=x
  ·have e2:¬(es.getD k (0,0)).2=x:=fun z=>hne (e1.trans z.symm)
   rw[if_pos e1,if_neg e2,if_pos (decide_eq_true (.inl e1.symm)),List.length_cons]
   omega
  ·by_cases e2:(es.getD k (0,0)).2=x
   ·rw[if_neg e1,if_pos e2,if_pos (decide_eq_true (.inr e2.symm)),List.length_cons]
    omega
   ·rw[if_neg e1,if_neg e2,if_neg (fun z=>(of_decide_eq_true z).elim (fun z=>e1 z.symm) fun z=>e2 z.symm)]
    omega
theorem Zjf{es:List (Nat×Nat)}{tl:List (Option Nat)}{u v:Nat}{S:List Nat}(nd:S.Nodup)(hk:∀k∈S,k<es.length/\InP tl u v k) (hne:∀k∈S,(es.getD k (0,0)).1≠(es.getD k (0,0)).2) (hc:CleanTo es tl es.length) (x:Nat):deg es S x<=2:=by
 rw[Jh x hne]
 have hF:∀k∈S.filter fun k=>decide (x=(es.getD k (0,0)).1\/x=(es.getD k (0,0)).2),k∈S/\At (es.getD k (0,0)) x:=fun k hk=>⟨(List.mem_filter.mp hk).1,show x=(es.getD k (0,0)).1\/x=(es.getD k (0,0)).2 from of_decide_eq_true (List.mem_filter.mp hk).2⟩
 have hnF:(S.filter fun k=>decide (x=(es.getD k (0,0)).1\/x=(es.getD k (0,0)).2)).Nodup:=nd.filter _
 generalize(S.filter fun k=>decide (x=(es.getD k (0,0)).1\/x=(es.getD k (0,0)).2))=F at*
 have h1:(F.map fun k=>if tl[k]?=some (some u)then 0 else 1).Nodup:=by
  unfold List.Nodup
  rw[List.pairwise_map]
  refine List.Pairwise.imp_of_mem (fun{a b} ha hb hab z=>?_) hnF
  obtain⟨ha1,ha2⟩:=hF a ha
  obtain⟨hb1,hb2⟩:=hF b hb
  have same:∃t,tl[a]?=some (some t)/\tl[b]?=some (some t):=by
   by_cases ea:tl[a]?=some (some u)
   ·by_cases eb:tl[b]?=some (some u)
    ·exact⟨u,ea,eb⟩
    ·rw[if_pos ea,if_neg eb]at z;cases z
   ·by_cases eb:tl[b]?=some (some u)
    ·rw[if_neg ea,if_pos eb]at z;cases z
    ·exact⟨v,(hk a ha1).2.resolve_left ea,(hk b hb1).2.resolve_left eb⟩
  obtain⟨t,ta,tb⟩:=same
  rcases Nat.lt_trichotomy a b with h|h|h
  ·exact hc b a t h (hk b hb1).1 tb ta x hb2 ha2
  ·exact hab h
  ·exact hc a b t h (hk a ha1).1 ta tb x ha2 hb2
 have h2:=Zbd (n:=2) h1 fun y hy=>by
  obtain⟨k,_,rfl⟩:=List.mem_map.mp hy
  split<;>omega
 rw[List.length_map]at h2
 exact h2
section
variable{es:List (Nat×Nat)}{tl:List (Option Nat)}{u v p:Nat}{S:List Nat}
def swt(u v t:Nat):Nat:=if t=u then v else u
theorem Zeo(huv:u≠v)(hS:∀k,k∈S↔RT es tl u v p k) {x t:Nat} (hx:RP es tl u v p x) (ht:t=u\/t=v):Used es (trn tl u v S) es.length x t↔Used es tl es.length x (swt u v t):=by
 have hI:∀k∈S,InP tl u v k:=fun k hk=>((hS k).mp hk).2.1
 constructor
 ·rintro⟨j,hj,e,ha⟩
  have hi:InP (trn tl u v S) u v j:=ht.elim (fun z=> .inl (z▸e)) fun z=> .inr (z▸e)
  have hi':=(Zco huv hI j).mp hi
  have hm:j∈S:=(hS j).mpr ⟨hj,hi',x,hx,ha⟩
  refine⟨j,hj,?_,ha⟩
  rw[YZ hm hi']at e
  rcases hi' with a|a
  ·rw[ZaJ a]at e
   have:t=v:=(Option.some.inj (Option.some.inj e)).symm
   unfold swt
   rw[if_neg (fun z=>huv (z.symm.trans this)),a]
  ·rw[ZaI huv a]at e
   have:t=u:=(Option.some.inj (Option.some.inj e)).symm
   unfold swt
   rw[if_pos this,a]
 ·rintro⟨j,hj,e,ha⟩
  have hi:InP tl u v j:=by
   rcases ht with rfl|rfl
   ·unfold swt at e;rw[if_pos rfl]at e;exact .inr e
   ·unfold swt at e;rw[if_neg (Ne.symm huv)]at e;exact .inl e
  have hm:j∈S:=(hS j).mpr ⟨hj,hi,x,hx,ha⟩
  refine⟨j,hj,?_,ha⟩
  rw[YZ hm hi]
  rcases ht with rfl|rfl
  ·unfold swt at e;rw[if_pos rfl]at e;rw[ZaI huv e]
  ·unfold swt at e;rw[if_neg (Ne.symm huv)]at e;rw[ZaJ e]
end
def JJ(l:List Nat)(x:Nat):List Nat:=if x∈l then l else l++[x]
theorem mem_addN{l:List Nat}{x y:Nat}:y∈JJ l x↔y∈l\/y=x:=by
 unfold JJ
 split
 ·rename_i h
  exact⟨.inl,fun z=>z.elim id fun e=>e▸h⟩
 ·rw[List.mem_append,List.mem_singleton]
theorem Zbu{l:List Nat}{x:Nat}(h:l.Nodup):(JJ l x).Nodup:=by
 unfold JJ
 split
 ·exact h
 ·rename_i hn
  rw[List.nodup_append]
  exact⟨h,List.nodup_cons.mpr ⟨List.not_mem_nil,List.nodup_nil⟩,fun a ha b hb z=>by rw[List.mem_singleton]at hb;subst hb z;exact hn ha⟩
theorem Zaf{l:List Nat}{x y i:Nat}(h:l[i]?=some y):(JJ l x)[i]?=some y:=by
 unfold JJ
 split
 ·exact h
 ·rw[List.getElem?_append_left (List.getElem?_eq_some_iff.mp h).1];exact h
theorem Zdd{l:List Nat}{x:Nat}:(JJ l x).length<=l.length+1:=by
 unfold JJ
 split
 ·omega
 ·rw[List.length_append];exact Nat.le_refl _
theorem Zem{l:List Nat}{x:Nat}(h:x∈l):JJ l x=l:=by unfold JJ;rw[if_pos h]
structure Cm(es:List (Nat×Nat))(tl:List (Option Nat))(u v p n a:Nat)(met known:List Nat):Prop where
 kn:known.Nodup
 kr:∀x∈known,RP es tl u v p x
 kp:p∈known
 klt:∀x∈known,x<n
 mn:met.Nodup
 mr:∀k∈met,RT es tl u v p k
 me:∀k∈met,(es.getD k (0,0)).1∈known/\(es.getD k (0,0)).2∈known
 cl:∀i x,i<a->known[i]?=some x->∀k,k<es.length->InP tl u v k->At (es.getD k (0,0)) x->k∈met
 le:known.length<=met.length+1
theorem Cm.start{es:List (Nat×Nat)}{tl:List (Option Nat)}{u v p n:Nat}(h:p<n):Cm es tl u v p n 0 [] [p]:=
 ⟨List.nodup_cons.mpr ⟨List.not_mem_nil,List.nodup_nil⟩,(fun x hx=>by rw[List.mem_singleton.mp hx];exact .start),List.mem_singleton.mpr rfl,(fun x hx=>by rw[List.mem_singleton.mp hx];exact h),List.nodup_nil,(fun k hk=>by cases hk),(fun k hk=>by cases hk),(fun i x hi=>absurd hi (Nat.not_lt_zero _)),Nat.le_refl _⟩
theorem Cm.add{es:List (Nat×Nat)}{tl:List (Option Nat)}{u v p n a x k:Nat}{met known:List Nat}(h:Cm es tl u v p n a met known)(hx:known[a]?=some x)(hk:k<es.length)(hi:InP tl u v k)(hat:At (es.getD k (0,0)) x)(hno:k ∉ met)(h1:(es.getD k (0,0)).1<n)(h2:(es.getD k (0,0)).2<n):
  Cm es tl u v p n a (met++[k]) (JJ (JJ known (es.getD k (0,0)).1) (es.getD k (0,0)).2):=by
 have hxm:=List.mem_of_getElem? hx
 have rt:RT es tl u v p k:=⟨hk,hi,x,h.kr x hxm,hat⟩
 have hal:a<known.length:=(List.getElem?_eq_some_iff.mp hx).1
 have key:∀y,y∈JJ (JJ known (es.getD k (0,0)).1) (es.getD k (0,0)).2↔(y∈known\/y=(es.getD k (0,0)).1)\/y=(es.getD k (0,0)).2:=fun y=>by rw[mem_addN,mem_addN]
 refine⟨Zbu (Zbu h.kn),fun y hy=>?_,(key p).mpr (.inl (.inl h.kp)),fun y hy=>?_,?_,fun j hj=>?_,fun j hj=>?_,fun i y hi' hy j a1 a2 a3=>?_,?_⟩
 ·rcases(key y).mp hy with(z|rfl)|rfl
  ·exact h.kr y z
  ·exact rt.end (.inl rfl)
  ·exact rt.end (.inr rfl)
 ·rcases(key y).mp hy with(z|rfl)|rfl
  ·exact h.klt y z
  ·exact h1
  ·exact h2
 ·rw[List.nodup_append]
  exact⟨h.mn,List.nodup_cons.mpr ⟨List.not_mem_nil,List.nodup_nil⟩,fun a ha b hb z=>by rw[List.mem_singleton]at hb;subst hb z;exact hno ha⟩
 ·rcases List.mem_append.mp hj with z|z
  ·exact h.mr j z
  ·rw[List.mem_singleton.mp z];exact rt
 ·rcases List.mem_append.mp hj with z|z
  ·exact⟨(key _).mpr (.inl (.inl (h.me j z).1)),(key _).mpr (.inl (.inl (h.me j z).2))⟩
  ·rw[List.mem_singleton.mp z];exact⟨(key _).mpr (.inl (.inr rfl)),(key _).mpr (.inr rfl)⟩
 ·have hil:i<known.length:=by omega
  have e:known[i]?=some y:=by
   have h3:=Zaf (x:=(es.getD k (0,0)).2) (Zaf (x:=(es.getD k (0,0)).1) (List.getElem?_eq_getElem hil))
   rw[hy]at h3
   rw[List.getElem?_eq_getElem hil,<-Option.some.inj h3]
  exact List.mem_append_left _ (h.cl i y hi' e j a1 a2 a3)
 ·rw[List.length_append,List.length_singleton]
  have hle:=h.le
  rcases hat with e|e
  ·rw[Zem (l:=known) (x:=(es.getD k (0,0)).1) (e▸hxm)]
   have:=Zdd (l:=known) (x:=(es.getD k (0,0)).2)
   omega
  ·rw[Zem (l:=JJ known (es.getD k (0,0)).1) (x:=(es.getD k (0,0)).2) (mem_addN.mpr (.inl (e▸hxm)))]
   have:=Zdd (l:=known) (x:=(es.getD k (0,0)).1)
   omega
theorem Cm.next{es:List (Nat×Nat)}{tl:List (Option Nat)}{u v p n a x:Nat}{met known:List Nat}(h:Cm es tl u v p n a met known)(hx:known[a]?=some x)(hc:∀k,k<es.length->InP tl u v k->At (es.getD k (0,0)) x->k∈met):Cm es tl u v p n (a+1) met known:=
 ⟨h.kn,h.kr,h.kp,h.klt,h.mn,h.mr,h.me,(fun i y hi hy=>by
  by_cases e:i=a
  ·subst e
   rw[hx]at hy
   cases hy
   exact hc
  ·exact h.cl i y (by omega) hy),h.le⟩
theorem Cm.done{es:List (Nat×Nat)}{tl:List (Option Nat)}{u v p n a:Nat}{met known:List Nat}(h:Cm es tl u v p n a met known)(ha:known.length<=a):∀k,k∈met↔RT es tl u v p k:=by
 have W:Walk es tl u v p (·∈met) (·∈known) (fun _=>False):=by
  refine⟨h.mr,fun x z=>z.elim,fun x hx k a1 a2 a3=>?_,fun k hk x hx=> .inl ?_,.inl h.kp⟩
  ·obtain⟨i,hi,e⟩:=List.getElem_of_mem hx
   exact h.cl i x (by omega) (by rw[List.getElem?_eq_getElem hi,e]) k a1 a2 a3
  ·rcases hx with rfl|rfl
   ·exact(h.me k hk).1
   ·exact(h.me k hk).2
 exact W.done fun x z=>z
section
variable{P:Program}{w:World}{K:PySem.W.Frag}{mg:Str->Option Value}{base:Heap}
abbrev sTu:Stmt:=top 11
abbrev nTu:List Str:=["net","tints","point","one","other","row","tie"]
inductive spTu(vs:List V)(H:Hp)(Q:VK)(_z3:XK):Prop
 |mk (p r:Addr) (n:Nat) (q:Addr) (ts:List V) (es:List (Nat×Nat)) (tl:List (Option Nat)) (pt u v:Nat) (_:vs=[.ref p,.ref r,.int (pt:Int),.int (u:Int),.int (v:Int)]) (_:NetZ H p n q ts es) (_:H r=some (.tup (tv tl))) (_:tl.length=es.length) (_:es.length<64) (_:∀H' t(S:List Nat),Same H H'->H' t=some (.tup (tv (trn tl u v S)))->S.Pairwise (·<·)->(∀k,k∈S↔RT es tl u v pt k)->Q (.ref t) H')
theorem scTu:Zr nTu ["net","tints","point","one","other"] (Zh sTu):=⟨rfl,rfl,rfl,by decide+kernel,rfl,by decide+kernel,by decide+kernel⟩
theorem ZjR{f}{fd}(F:Fun K "turned" "turned" sTu f fd)(T:Bi mg)(FC:FnE P w K mg base "chain" ["net","tints","point","one","other"] 2 spCh):FnOk P w K mg base CX0 3 f fd ["net","tints","point","one","other"] spTu:=by
 refine F.ok scTu (fun vs H Q E h=>?_) (fun cdv A outer s H vs Q E hr h=>?_)
 ·obtain⟨p,r,n,q,ts,es,g,pt,u,v,rfl,_⟩:=h
  rfl
 ·obtain⟨p,r,n,qa,ts,es,g,pt,u,v,rfl,N,hR,htl,h64,q⟩:=h
  refine⟨_,Zb (Zj (i:=5) scTu.nd rfl (Or.inl rfl) (Z1 Zac rfl T.list Zdb (Zc (pv 1) Za)))
   (Zb (ZL PassesOwn.never rfl (Yu (Zw FC hr (Zc (pv 0) (Zc (pv 1) (Zc (pv 2) (Zc (pv 3) (Zc (pv 4) Za))))))) (Zq (i:=6) scTu.nd rfl (Or.inl rfl))
    (Zg (Yq (JU (Zm ZI (Zl Zo (pv 1) (pv 6) (fun _ _=>rfl)) (pv 3) (Zv _)) (pv 4) (pv 3)) (Jd (pv 5) (pv 6) ZU))))
   (Zg (Zs (Z1 Z7 rfl T.tuple Yl (Zc (pv 5) Za))))),_,rfl,r,_,rfl,.inr (SqT.of hR),fun j hro=>?_⟩
  have s0:Same H (upd H j (.lst (tv g))):=Zi hro
  refine⟨_,rfl,_,rfl,_,rfl,_,rfl,_,rfl,p,r,n,qa,ts,es,g,pt,u,v,rfl,N.same s0,s0 _ _ hR,htl,h64,fun H1 t S s1 ht hS hRT=>?_⟩
  have m:=s1 _ _ Zd
  refine⟨t,rfl,⟨_,SqT.of ht⟩,Yt (K:=K) (a:=t) (xs:=nl S) (fun i σ G=>∃v6,σ=[some (.ref p),some (.ref r),some (.int pt),some (.int u),some (.int (v:Int)),some (.ref j),v6]/\Same H G/\G t=some (.tup (nl S))/\G j=some (.lst (tv (trn g u v (S.take i)))))
   ⟨_,rfl,(Same.trans s0 s1),ht,m⟩ (fun i σ G _⟨_,_,_,z,_⟩=>SqT.of z) (fun i y σ G hy xq1=>?_) (fun σ G xq1=>?_)⟩
  ·obtain⟨v6,e,SG,gt,gr⟩:=xq1
   subst e
   obtain⟨k,hk,rfl⟩:∃k,S[i]?=some k/\y=V.int (k:Int):=by
    unfold nl at hy
    rw[List.getElem?_map]at hy
    cases z:S[i]? with
    |none=>rw[z]at hy;cases hy
    |some k=>rw[z]at hy;cases hy;exact⟨k,rfl,rfl⟩
   have hke:=((hRT k).mp (List.mem_of_getElem? hk)).1
   have hkt:k<g.length:=by omega
   have hgd:g.getD k none=g[k]:=by rw[List.getD_eq_getElem?_getD,List.getElem?_eq_getElem hkt];rfl
   have fin:∀o,o=swp g u v k->∃w6:Option V,([some (.ref p),some (.ref r),some (.int (pt:Int)),some (.int (u:Int)),some (.int (v:Int)),some (.ref j),some (.int (k:Int))]:St)=[some (.ref p),some (.ref r),some (.int (pt:Int)),some (.int (u:Int)),some (.int (v:Int)),some (.ref j),w6]/\Same H (upd G j (.lst ((tv (trn g u v (S.take i))).set k (tN o))))/\(upd G j (.lst ((tv (trn g u v (S.take i))).set k (tN o)))) t=some (.tup (nl S))/\(upd G j (.lst ((tv (trn g u v (S.take i))).set k (tN o)))) j=some (.lst (tv (trn g u v (S.take (i+1))))):=fun o ho=>by
    subst ho
    refine⟨_,rfl,SG.wr hro,by rw[Zf (show t≠j from fun z=>by rw[z,m]at ht;cases ht)];exact gt,?_⟩
    rw[Zd,Zfb,List.take_add_one,hk]
    show _=some (HO.lst (tv (trn g u v (S.take i++[k]))))
    rw[Zfd]
   have hlk:k<(tv (trn g u v (S.take i))).length:=by rw[Yp,JK];exact hkt
   refine⟨_,rfl,_,rfl,r,_,_,_,rfl,rfl,SqT.of (SG _ _ hR),Z3 (Zdg (List.getElem?_eq_getElem hkt)),_,rfl,(by cases g[k]<;>rfl),_,rfl,?_⟩
   refine ZF (fun hz=>?_) (fun hz=>?_)
   ·refine⟨_,rfl,_,rfl,_,rfl,j,_,k,rfl,rfl,gr,hlk,fin (some v) ?_⟩
    unfold swp
    rw[hgd,if_pos]
    cases ho:g[k]with
    |none=>rw[ho]at hz;cases hz
    |some t=>
     rw[ho]at hz
     have:=V.int.inj (of_decide_eq_true hz)
     rw[show t=u by omega]
   ·refine⟨_,rfl,_,rfl,_,rfl,j,_,k,rfl,rfl,gr,hlk,fin (some u) ?_⟩
    unfold swp
    rw[hgd,if_neg]
    intro ho
    rw[ho]at hz
    exact hz (decide_eq_true rfl)
  ·obtain⟨v6,e,SG,gt,gr⟩:=xq1
   subst e
   rw[nl_len,List.take_length]at gr
   exact⟨_,rfl,j,_,rfl,.inl gr,fun t2 H3 s3 ht2=>q H3 t2 S (Same.trans SG s3) ht2 hS hRT⟩
end
theorem Cm.pass{es}{tl}{u v p n a x}(ok:∀e∈es,e.1<n/\e.2<n/\e.1≠e.2):∀(k),k<=es.length->∀{met known},Cm es tl u v p n a met known->known[a]?=some x->
  ∃met' known',Cm es tl u v p n a met' known'/\known'[a]?=some x/\∀j,j<k->InP tl u v j->At (es.getD j (0,0)) x->j∈met'
 |0,_,met,known,C,d=>⟨_,_,C,d,fun j f=>absurd f (Nat.not_lt_zero _)⟩
 |k+1,_,met,known,C,d=>by
  obtain⟨met',known',g,b,_⟩:=Cm.pass ok k (by omega) C d
  by_cases h:InP tl u v k/\At (es.getD k (0,0)) x/\k ∉ met'
  ·obtain⟨l,m,i⟩:=h
   have c:=ok _ (getD_mem (show k<es.length by omega))
   refine⟨_,_,g.add b (by omega) l m i c.1 c.2.1,Zaf (Zaf b),fun j f _ _=>?_⟩
   grind
  grind
theorem Cm.run{es}{tl}{u v p n}(ok:∀e∈es,e.1<n/\e.2<n/\e.1≠e.2):∀(d a){met known},n-a<=d->Cm es tl u v p n a met known->∃a' met' known',Cm es tl u v p n a' met' known'/\known'.length<=a'
 |d,a,met,known,_,C=>by
  by_cases h:known.length<=a
  ·grind
  ·have _:=Zbd C.kn C.klt
   obtain⟨x,c⟩:∃x,known[a]?=some x:=⟨_,List.getElem?_eq_getElem (by omega)⟩
   obtain⟨met',known',f,b,g⟩:=Cm.pass ok _ (Nat.le_refl _) C c
   cases d with
   |zero=>omega
   |_ d=>exact Cm.run ok d _ (by omega) (f.next b g)
theorem ZeK{es:List (Nat×Nat)}{tl:List (Option Nat)}{u v p n:Nat}{S:List _}(ok:∀e∈es,e.1<n/\e.2<n/\e.1≠e.2) (hp:p<n) (hS:S.Pairwise (·<·)) (hR:∀k,k∈S↔RT es tl u v p k):
  ∃pts:List _,pts.Nodup/\(∀k∈S,(es.getD k (0,0)).1∈pts/\(es.getD k (0,0)).2∈pts)/\pts.length<=S.length+1/\∀x∈pts,RP es tl u v p x:=by
 obtain⟨a,_,_,C,h⟩:=Cm.run ok n 0 (by omega) (Cm.start (es:=es) (tl:=tl) (u:=u) (v:=v) hp)
 have c:=C.done h
 have _:=((List.perm_ext_iff_of_nodup C.mn (hS.imp fun z=>Nat.ne_of_lt z)).mpr fun k=>by rw[c k,hR k]).length_eq
 exact⟨_,C.kn,fun k d=>C.me k ((c k).mpr ((hR k).mp d)),by have:=C.le;omega,C.kr⟩
theorem Zfg{f}(h:∀x,f x<=2):∀l:List _,Zu f l<=2*l.length
 |[]=>Nat.le_refl _
 |x::l=>by
  have:=Zfg h l
  have:=h x
  show f x+Zu f l<=2*(l.length+1)
  omega
section
variable{es:List (Nat×Nat)}{tl:List (Option Nat)}{u v p n:Nat}{S:List Nat}
theorem ZfA(ok:∀e∈es,e.1<n/\e.2<n/\e.1≠e.2):∀k,k<es.length->(es.getD k (0,0)).1≠(es.getD k (0,0)).2:=fun k a=>(ok _ (getD_mem a)).2.2
theorem two_le{l:List Nat}(nd:l.Nodup)(h:∀a∈l,∀b∈l,a=b):l.length<=1:=by
 cases l with
 |nil=>exact Nat.zero_le _
 |cons a l=>
  cases l with
  |nil=>exact Nat.le_refl _
  |cons b l=>
   simp_all
theorem Zht(hS:S.Pairwise (·<·))(hR:∀k,k∈S↔RT es tl u v p k) (ok:∀e∈es,e.1<n/\e.2<n/\e.1≠e.2) (hc:CleanTo es tl es.length) {x} (hf:¬Used es tl es.length x u\/¬Used es tl es.length x v):deg es S x<=1:=by
 rw[Jh x fun k E=>ZfA ok k ((hR k).mp E).1]
 refine two_le ((hS.imp fun z=>Nat.ne_of_lt z).filter _) fun a D b H=>?_
 have g:∀c,c∈S.filter (fun k=>decide (x=(es.getD k (0,0)).1\/x=(es.getD k (0,0)).2))->c<es.length/\At _ x/\InP tl u v c:=fun c q=>by
  obtain⟨f,G⟩:=List.mem_filter.mp q
  have A:=(hR c).mp f
  exact⟨A.1,(show x=(es.getD c (0,0)).1\/x=(es.getD c (0,0)).2 from of_decide_eq_true G),A.2.1⟩
 obtain⟨s,j,w⟩:=g a D
 obtain⟨o,i,y⟩:=g b H
 obtain⟨t,C,B⟩:∃t,tl[a]?=some (some t)/\tl[b]?=some (some t):=by
  rcases hf with hf|hf
  ·have f:∀c,c<es.length->At _ x->InP tl u v c->tl[c]?=some _:=fun c r l m=>m.resolve_left fun z=>hf ⟨c,r,z,l⟩
   exact⟨v,f a s j w,f b o i y⟩
  ·have f:∀c,c<es.length->At _ x->InP tl u v c->tl[c]?=some _:=fun c r l m=>m.resolve_right fun z=>hf ⟨c,r,z,l⟩
   exact⟨u,f a s j w,f b o i y⟩
 rcases Nat.lt_trichotomy a b with h|h|h
 ·exact absurd j (hc b a t h o B C x i)
 ·exact h
 ·exact absurd i (hc a b t h s C B x j)
theorem ZeX(hR:∀k,k∈S↔RT es tl u v p k) {x t} (hx:¬RP es tl u v p x):Used es (trn tl u v S) es.length x t↔Used es tl es.length x t:=by
 have h:=fun j e d=>hx (((hR j).mp d).end e)
 constructor
 ·rintro⟨j,a,b,c⟩
  exact⟨j,a,by rw[Y0 (h j c)]at b;exact b,c⟩
 ·rintro⟨j,a,b,c⟩
  exact⟨j,a,by rw[Y0 (h j c)];exact b,c⟩
theorem Zbj(huv:u≠v)(hI:∀k∈S,InP tl u v k) {j t:Nat} (h1:t≠u) (h2:t≠v):(trn tl u v S)[j]?=some (some t)↔tl[j]?=some (some t):=by
 by_cases h:j∈S
 ·have a:=hI j h
  constructor
  ·intro z
   rcases((Zco huv hI j).mpr a)with e|e
   ·grind
   ·grind
  ·intro z
   rcases a with e|e
   ·rw[z]at e;simp_all
   ·rw[z]at e;simp_all
 ·rw[Y0 h]
theorem Zda(hI:∀k∈S,InP tl u v k) {j:Nat}:(trn tl u v S)[j]?=some none↔tl[j]?=some none:=by
 by_cases h:j∈S
 ·have a:=hI j h
  constructor
  ·intro z
   rw[YZ h a]at z
   cases Option.some.inj z
  ·intro z
   rcases a with e|e<;>rw[z]at e<;>cases Option.some.inj e
 ·rw[Y0 h]
end
theorem ZcS(p):∀l:List Nat,(l.filter p).length+(l.filter fun x=> !p x).length=l.length
 |[]=>rfl
 |x::l=>by
  have _:=ZcS p l
  grind
theorem ZcT{p q}(h:∀x,p x=true->q x=true):∀l:List Nat,(l.filter p).length<=(l.filter q).length
 |[]=>Nat.le_refl _
 |x::l=>by
  have _:=ZcT h l
  cases _:p x with
  |true=>simp_all
  |_=>
   grind
def ct(es:List (Nat×Nat))(tl:List (Option Nat))(x:Nat):Nat:=((List.range es.length).filter fun j=>atB (es.getD j (0,0)) x&&(tl.getD j none).isSome).length
theorem ZkR{es}{tl}{k x}(hk:k<es.length)(hb:tl[k]?=some none)(hx:At (es.getD k (0,0)) x):ct es tl x+1<=dg es es.length x:=by
 have _:=Zeb k (fun j=>atB (es.getD j (0,0)) x) (atB_iff.mpr hx) _ (List.mem_range.mpr hk)
 have _:ct es tl x<=((List.range es.length).filter fun j=>j !=k&&atB (es.getD j (0,0)) x).length:=by
  refine ZcT (fun j h=>?_) _
  obtain⟨a,b⟩:=Bool.and_eq_true_iff.mp h
  rw[Bool.and_eq_true]
  refine⟨?_,a⟩
  by_cases e:j=k
  ·simp_all
  ·simp[e]
 unfold dg
 omega
theorem ZfZ(es)(tl)(x m):m<=(frees es tl x m).length+ct es tl x:=by
 have i:=ZcS (fun t=>@decide (¬Used es tl es.length x t) (Classical.propDecidable _)) (List.range m)
 rw[List.length_range]at i
 have h:=sub_len (a:=(List.range m).filter fun t=> !(@decide (¬Used es tl es.length x t) (Classical.propDecidable _))) (b:=((List.range es.length).filter fun j=>atB (es.getD j (0,0)) x&&(tl.getD j none).isSome).map fun j=>(tl.getD j none).getD 0) (List.nodup_range.filter _) fun t k=>by
  obtain⟨_,h⟩:=List.mem_filter.mp k
  have l:=Classical.byContradiction fun z=>by
   rw[@decide_eq_true _ (Classical.propDecidable _) z]at h
   cases h
  obtain⟨j,a,b,c⟩:=l
  refine List.mem_map.mpr ⟨j,List.mem_filter.mpr ⟨List.mem_range.mpr a,?_⟩,?_⟩
  ·rw[Bool.and_eq_true,show tl.getD j _=some t by simp_all]
   exact⟨atB_iff.mpr c,rfl⟩
  ·simp_all
 rw[List.length_map]at h
 unfold ct frees
 omega
theorem J7{es}{tl}{k x m M}(hk:k<es.length)(hb:tl[k]?=some none)(hx:At (es.getD k (0,0)) x)(hM:dg es es.length x<=M)(hm:M<=m):0<(frees es tl x m).length:=by
 have:=ZfZ es tl x m
 have:=ZkR hk hb hx
 omega
inductive Stp where
 |turn (p u v:Nat)
 |tint (k t:Nat)
 |bare (k:Nat)
def stV:Stp->List V
 | .turn p u v=>[.str "turn",.int (p:Int),.int (u:Int),.int (v:Int)]
 | .tint k t=>[.str "tint",.int (k:Int),.int (t:Int)]
 | .bare k=>[.str "bare",.int (k:Int)]
def StOk(n L m:Nat):Stp->Prop
 | .turn p u v=>p<n/\u<m/\v<m/\u≠v
 | .tint k t=>k<L/\t<m
 | .bare k=>k<L
def Did(es:List (Nat×Nat))(tl:List (Option Nat)):Stp->List (Option Nat)->Prop
 | .turn p u v,r=>∃S:List Nat,S.Pairwise (·<·)/\(∀k,k∈S↔RT es tl u v p k)/\r=trn tl u v S
 | .tint k t,r=>r=tl.set k (some t)
 | .bare k,r=>r=tl.set k none
theorem Did.len{es:List (Nat×Nat)}{tl r:List (Option Nat)}{s:Stp}(h:Did es tl s r):r.length=tl.length:=by
 cases s with
 |turn p u v=>obtain⟨S,_,_,rfl⟩:=h;exact JK _ _ _ _
 |tint k t=>rw[show r=tl.set k (some t)from h,List.length_set]
 |bare k=>rw[show r=tl.set k none from h,List.length_set]
theorem Did.uniq{es:List (Nat×Nat)}{tl r r':List (Option Nat)}{s:Stp}(h:Did es tl s r)(h':Did es tl s r'):r=r':=by
 cases s with
 |turn p u v=>
  obtain⟨S,a,b,rfl⟩:=h
  obtain⟨S',a',b',rfl⟩:=h'
  rw[ZaQ a a' fun x=>by rw[b x,b' x]]
 |tint k t=>exact(show r=_ from h).trans (show r'=_ from h').symm
 |bare k=>exact(show r=_ from h).trans (show r'=_ from h').symm
inductive Wk(es:List (Nat×Nat))(n m:Nat):List Stp->List (Option Nat)->List (Option Nat)->Prop
 |nil {tl:List (Option Nat)}:Wk es n m [] tl tl
 |cons {s:Stp} {sl:List Stp} {tl t1 t2:List (Option Nat)}:StOk n es.length m s->Did es tl s t1->CleanTo es t1 es.length->Wk es n m sl t1 t2->Wk es n m (s::sl) tl t2
structure Res(es:List (Nat×Nat))(tl:List (Option Nat))(k m n mv:Nat)(sl:List Stp):Prop where
 ex:∃tE,Wk es n m sl tl tE/\tE.length=es.length/\CleanTo es tE es.length/\(∃t,tE[k]?=some (some t))/\(∀j,j≠k->(tE[j]?=some none↔tl[j]?=some none))/\∃l:List Nat,l.length<=mv/\∀j,j≠k->tl[j]?≠tE[j]?->j∈l
 few:sl.length<=4
theorem head_mem{l:List Nat}(h:0<l.length):l.getD 0 0∈l:=by
 cases l with
 |nil=>cases h
 |cons x l=>exact .head _
def ShSt(H:Hp)(l:Addr)(sl:List Stp):Prop:=∃tr:List (Addr×Stp),H l=some (.lst (tr.map fun x=>V.ref x.1))/\tr.map (·.2)=sl/\∀x∈tr,H x.1=some (.tup (stV x.2))
theorem ShSt.same{H H':Hp}{l:Addr}{sl:List Stp}(h:ShSt H l sl)(s:Same H H'):ShSt H' l sl:=let⟨tr,a,b,c⟩:=h;⟨tr,s _ _ a,b,fun x hx=>s _ _ (c x hx)⟩
theorem ZeV{es}{tl}{n m k t}(hk:k<es.length)(ht:t<m)(hC:CleanTo es (tl.set k (some t)) es.length):Wk es n m [.tint k t] tl (tl.set k (some t)):= .cons ⟨hk,ht⟩ rfl hC .nil
theorem ZeJ(es:List (Nat×Nat))(tl:List (Option Nat))(u v p):∃S:List _,S.Pairwise (·<·)/\∀k,k∈S↔RT es tl u v p k:=by
 refine⟨(List.range es.length).filter fun k=>@decide (RT es tl u v p k) (Classical.propDecidable _),List.Pairwise.filter _ List.pairwise_lt_range,fun k=>?_⟩
 rw[List.mem_filter,List.mem_range]
 exact⟨fun z=>@of_decide_eq_true _ (Classical.propDecidable _) z.2,fun z=>⟨z.1,@decide_eq_true _ (Classical.propDecidable _) z⟩⟩
inductive Alt(es:List (Nat×Nat))(tl:List (Option Nat))(u v p:Nat):Nat->Bool->Prop
 |start:Alt es tl u v p p false
 |one {x y k:Nat}:Alt es tl u v p x false->k<es.length->tl[k]?=some (some u)->At (es.getD k (0,0)) x->At (es.getD k (0,0)) y->x≠y->Alt es tl u v p y true
 |two {x y k:Nat}:Alt es tl u v p x true->k<es.length->tl[k]?=some (some v)->At (es.getD k (0,0)) x->At (es.getD k (0,0)) y->x≠y->Alt es tl u v p y false
section
variable{es:List (Nat×Nat)}{tl:List (Option Nat)}{u v p n:Nat}
theorem ZaH(hC:CleanTo es tl es.length){i j t x}(hi:i<es.length)(hj:j<es.length)(ti:tl[i]?=some (some t))(tj:tl[j]?=some (some t))(ai:At (es.getD i (0,0)) x)(aj:At (es.getD j (0,0)) x):i=j:=by
 rcases Nat.lt_trichotomy i j with h|h|h
 ·exact absurd ai (hC j i t h hj tj ti x aj)
 ·exact h
 ·exact absurd aj (hC i j t h hi ti tj x ai)
theorem Zdc{e}{x y z}(hx:At e x)(hy:At e y)(hz:At e z)(xy:x≠y)(xz:x≠z):y=z:=by
 rcases hx with rfl|rfl<;>rcases hy with rfl|rfl<;>rcases hz with rfl|rfl<;>first|rfl|exact absurd rfl xy|exact absurd rfl xz
theorem Zjl(hC:CleanTo es tl es.length)(hv:¬Used es tl es.length p v){x}(h:RP es tl u v p x):∃b,Alt es tl u v p x b:=by
 induction h with
 |start=>exact⟨_,.start⟩
 |@step x y k _ m s c n w=>
  obtain⟨b,A⟩:=w
  by_cases e:x=y
  ·grind
  ·rcases s with t|t
   ·cases A with
    |start=>exact⟨_,.one .start m t c n e⟩
    |two o j d l i g=>exact⟨_,.one (.two o j d l i g) m t c n e⟩
    |@one z _ r o j d l i g=>
     have q:=ZaH hC m j t d c i
     subst q
     have:=Zdc c n l e (Ne.symm g)
     simp_all
   ·cases A with
    |start=>exact absurd ⟨k,m,t,c⟩ hv
    |one o j d l i g=>exact⟨_,.two (.one o j d l i g) m t c n e⟩
    |@two z _ r o j d l i g=>
     have q:=ZaH hC m j t d c i
     subst q
     have:=Zdc c n l e (Ne.symm g)
     simp_all
theorem Zeh{col:Nat->Bool}(hc:∀e∈es,col e.1≠col e.2) {k x y} (hk:k<es.length) (hx:At (es.getD k (0,0)) x) (hy:At (es.getD k (0,0)) y) (hxy:x≠y):col y= !col x:=by
 have h:=hc _ (getD_mem hk)
 rcases hx with rfl|rfl<;>rcases hy with rfl|rfl
 ·grind
 ·revert h;cases col _<;>cases col _<;>simp
 ·revert h;cases col _<;>cases col _<;>simp
 ·grind
theorem Zh5{col:Nat->Bool}(hc:∀e∈es,col e.1≠col e.2) {x} {b} (h:Alt es tl u v p x b):col x=(col p !=b):=by
 induction h with
 |start=>cases col p<;>rfl
 |one _ d i g a f c=>rw[Zeh hc d g a f,c];cases col p<;>rfl
 |_ _ d i g a f c=>rw[Zeh hc d g a f,c];cases col p<;>rfl
theorem Zff{f}(h:∀x,f x<=2) {b} (hb:f b<=1):∀{l},b∈l->Zu f l+1<=2*l.length
 |x::l,a=>by
  have _:=h x
  have _:=Zfg h l
  show f x+Zu f l+1<=2*(l.length+1)
  rcases List.mem_cons.mp a with e|e
  ·subst e;omega
  ·have:=Zff h hb e
   omega
theorem ZdB{S:List _}(ok:∀e∈es,e.1<n/\e.2<n/\e.1≠e.2) (hc:CleanTo es tl es.length) (hS:S.Pairwise (·<·)) (hR:∀k,k∈S↔RT es tl u v p k) {x:Nat} (hx:x<n) (hd:deg es S x<=1):S.length+1<=n:=by
 have _:=Zcb List.nodup_range fun k a=>by
  have:=ok _ (getD_mem ((hR k).mp a).1)
  exact⟨List.mem_range.mpr this.1,List.mem_range.mpr this.2.1⟩
 have _:=Zff (fun x=>Zjf (hS.imp fun z=>Nat.ne_of_lt z) (fun k a=>⟨((hR k).mp a).1,((hR k).mp a).2.1⟩) (fun k a=>ZfA ok k ((hR k).mp a).1) hc x) hd (List.mem_range.mpr hx)
 grind
end
noncomputable def oneOf(es:List (Nat×Nat))(tl:List (Option Nat))(k m:Nat):Nat:=(frees es tl (es.getD k (0,0)).1 m).getD 0 0
noncomputable def twoOf(es:List (Nat×Nat))(tl:List (Option Nat))(k m:Nat):Nat:=(frees es tl (es.getD k (0,0)).2 m).getD 0 0
open Classical in
noncomputable def put2(es:List (Nat×Nat))(tl:List (Option Nat))(k m:Nat):List Stp:=
 if 0<(both es tl (es.getD k (0,0)).1 (es.getD k (0,0)).2 m).length then[.tint k ((both es tl (es.getD k (0,0)).1 (es.getD k (0,0)).2 m).getD 0 0)]else[.turn (es.getD k (0,0)).2 (oneOf es tl k m) (twoOf es tl k m),.tint k (oneOf es tl k m)]
theorem ZgN{es}{tl}{n m k M}(ok:∀e∈es,e.1<n/\e.2<n/\e.1≠e.2) (hT:Two es) (hC:CleanTo es tl es.length) (hl:tl.length=es.length) (hk:k<es.length) (hb:tl[k]?=some none) (hM:∀x,x<n->dg es es.length x<=M) (hMm:M<=m):
  Res es tl k m n (n-1) (put2 es tl k m):=by
 have f:=ok _ (getD_mem hk)
 unfold put2
 split
 ·rename_i h0
  have hin:=head_mem h0
  generalize(both es tl _ _ m).getD 0 0=t at hin
  obtain⟨t1,t2,t3⟩:=both_mem.mp hin
  have u:=ZbR hC hl hk t2 t3
  exact⟨⟨_,ZeV hk t1 u,by grind,u,⟨t,by grind⟩,fun j p=>by grind,[],Nat.zero_le _,fun j p z=>(absurd (by grind) z)⟩,by show 1<=4;decide⟩
 ·rename_i h0
  have i:=frees_mem.mp (head_mem (J7 (m:=m) hk hb (x:=(es.getD k (0,0)).1) (.inl rfl) (hM _ f.1) hMm))
  rw[(show(frees es tl _ m).getD 0 0=oneOf es tl k m from rfl)]at i
  have r:=frees_mem.mp (head_mem (J7 (m:=m) hk hb (x:=(es.getD k (0,0)).2) (.inr rfl) (hM _ f.2.1) hMm))
  rw[(show(frees es tl _ m).getD 0 0=twoOf es tl k m from rfl)]at r
  have l:oneOf es tl k m≠twoOf es tl k m:=fun z=>r.2 (by rw[<-z];exact(Classical.byContradiction fun z=>(show∀t,t<m->¬Used es tl es.length (es.getD k (0,0)).1 t->¬Used es tl es.length (es.getD k (0,0)).2 t->False from fun t a b c=>h0 (List.length_pos_of_mem (both_mem.mpr ⟨a,b,c⟩))) _ i.1 i.2 z))
  generalize ha:(es.getD k (0,0)).1=a at*
  generalize hb':(es.getD k (0,0)).2=b at*
  generalize ho':oneOf es tl k m=o at*
  generalize ht':twoOf es tl k m=t at*
  obtain⟨S,hS,q⟩:=ZeJ es tl o t b
  obtain⟨col,h⟩:=hT
  have hna:¬RP es tl o t b a:=fun z=>by
   obtain⟨bb,A⟩:=Zjl hC r.2 z
   have h1:=Zh5 h A
   have h2:=h _ (getD_mem hk)
   rw[ha,hb']at h2
   cases A with
   |start=>exact f.2.2 rfl
   |one _ a1 a2 _ a4 _=>exact i.2 ⟨_,a1,a2,a4⟩
   |two _ _ _ _ _ _=>simp_all
  have u:=Zb8 l q hC
  have l1:(trn tl o t S).length=es.length:=by rw[JK];exact hl
  have nb:=fun z=>by
   have h2:=(Zeo l q (x:=b) .start (t:=o) (.inl rfl)).mp z
   have e:swt o t o=t:=by unfold swt;rw[if_pos rfl]
   rw[e]at h2
   exact r.2 h2
  have c2:=ZbR u l1 hk (t:=o) (by rw[ha];exact(fun z=>i.2 ((ZeX q hna).mp z))) (by rw[hb'];exact nb)
  refine⟨⟨_,.cons (s:= .turn b o t) ⟨f.2.1,i.1,r.1,l⟩ ⟨S,hS,q,rfl⟩ u (ZeV hk i.1 c2),by grind,c2,⟨o,by grind⟩,fun j p=>?_,S,?_,fun j p z=>?_⟩,by show 2<=4;decide⟩
  ·rw[List.getElem?_set,if_neg (fun z=>p z.symm)]
   exact Zda (fun j p=>((q j).mp p).2.1)
  ·have:=ZdB ok hC hS q f.2.1 (Zht hS q ok hC (.inr r.2))
   omega
  ·apply Classical.byContradiction
   intro hjS
   apply z
   rw[List.getElem?_set,if_neg (fun z=>p z.symm),Y0 hjS]
theorem ZfB{col:Nat->Bool}{r:List _}{m}(h:∀k,k<2*m+1->col (r.getD k 0)= !col (r.getD (if k=0 then 2*m else k-1) 0)):False:=by
 have a:∀k,k<=2*m->col (r.getD k 0)=(col (r.getD 0 0) !=decide (k%2=1)):=by
  intro k
  induction k with
  |zero=>intro _;cases col _<;>rfl
  |_ k d=>
   intro _
   have c:=h (k+1) (by omega)
   rw[if_neg (by omega),Nat.add_sub_cancel]at c
   rw[c,d (by omega)]
   have:k%2=0\/k%2=1:=by omega
   rcases this with e|e
   ·rw[decide_eq_false (by omega),decide_eq_true (show(k+1)%2=1 by omega)];cases col _<;>rfl
   ·rw[decide_eq_true e,decide_eq_false (by omega)];cases col _<;>rfl
 have b:=h 0 (by omega)
 rw[if_pos rfl,a _ (Nat.le_refl _),decide_eq_false (by omega)]at b
 revert b
 cases col _<;>simp
end My
namespace Sd
def put{α:Type}(f:Nat->α)(k:Nat)(v:α):Nat->α:=fun i=>if i=k then v else f i
theorem put_same{α}(f)(k)(v:α):put f k v k=v:=by unfold put;rw[if_pos rfl]
theorem put_ne{α}(f){k i}(v:α)(h:i≠k):put f k v i=f i:=by unfold put;rw[if_neg h]
def tint(d:Nat):Int:=((d%2:Nat))
theorem Zes(d):tint (d+1)=1-tint d:=by unfold tint;omega
theorem ZgC{a b}(h:tint a=tint b):a%2=b%2:=by unfold tint at h;omega
structure Zh8(adjL:Nat->List Nat)(V0:Nat->Prop)(row:Nat->Option Int):Prop where
 vis:∀x,row x≠none↔V0 x
 cl:∀x,V0 x->∀y∈adjL x,V0 y/\row y≠row x
structure BF(adjL:Nat->List Nat)(V0:Nat->Prop)(row0:Nat->Option Int)(n root:Nat)(row:Nat->Option Int)(above:Nat->Option Nat)(wt:List Nat)(pl:Nat)(dep:Nat->Nat):Prop where
 sym:∀x y,y∈adjL x->x∈adjL y
 bnd:∀x y,y∈adjL x->y<n
 shut:Zh8 adjL V0 row0
 old:∀x,V0 x->row x=row0 x
 nd:wt.Nodup
 lt:∀x∈wt,x<n
 hd:wt[0]?=some root
 vis:∀x,row x≠none↔V0 x\/x∈wt
 disj:∀x∈wt,¬V0 x
 col:∀x∈wt,row x=some (tint (dep x))
 d0:dep root=0
 par:∀x∈wt,x≠root->∃y,y∈wt/\above x=some y/\x∈adjL y/\dep x=dep y+1
 mono:∀(i j x y:Nat),i<=j->wt[i]?=some x->wt[j]?=some y->dep x<=dep y
 near:∀(i x p:Nat),wt[pl]?=some p->wt[i]?=some x->dep x<=dep p+1
 done:∀(i x:Nat),i<pl->wt[i]?=some x->∀y∈adjL x,y∈wt/\row y≠row x/\dep y<=dep x+1
def Part(adjL:Nat->List Nat)(row:Nat->Option Int)(wt:List Nat)(dep:Nat->Nat)(p k:Nat):Prop:=∀y∈(adjL p).take k,y∈wt/\row y≠row p/\dep y<=dep p+1
section
variable{adjL:Nat->List Nat}{V0:Nat->Prop}{row0 row:Nat->Option Int}{n root:Nat}{above:Nat->Option Nat}{wt:List Nat}{pl:Nat}{dep:Nat->Nat}
theorem BF.start(sym:∀x y,y∈adjL x->x∈adjL y) (bnd:∀x y,y∈adjL x->y<n) (S:Zh8 adjL V0 row0) (hr:row0 root=none) (hn:root<n):BF adjL V0 row0 n root (put row0 root (some 0)) above [root] 0 (fun _=>0):=by
 have a:=fun h=>(S.vis _).mpr h hr
 refine⟨sym,bnd,S,fun x h=>put_ne _ _ (fun z=>a (z▸h)),List.nodup_cons.mpr ⟨List.not_mem_nil,List.nodup_nil⟩,fun x h=>by simp_all,rfl,fun x=>?_,fun x h=>by grind,fun x h=>by rw[List.mem_singleton.mp h,put_same];rfl,rfl,fun x h z=>absurd (List.mem_singleton.mp h) z,fun _ _ _ _ _ _ _=>Nat.le_refl _,fun _ _ _ _ _=>Nat.zero_le _,fun i x h=>absurd h (Nat.not_lt_zero _)⟩
 by_cases e:x=root
 ·subst e
  rw[put_same]
  exact⟨fun _=> .inr (.head _),fun _ z=>by cases z⟩
 ·rw[put_ne _ _ e,S.vis x]
  grind
theorem BF.known(B:BF adjL V0 row0 n root row above wt pl dep){p y}(hp:p∈wt)(hy:y∈adjL p)(h:row y≠none):y∈wt:=by
 rcases(B.vis y).mp h with z|z
 ·exact absurd (B.shut.cl y z p (B.sym p y hy)).1 (B.disj p hp)
 ·exact z
theorem BF.skip(B:BF adjL V0 row0 n root row above wt pl dep){p y}(hp:wt[pl]?=some p)(hy:y∈adjL p)(h:row y≠none)(hne:row y≠row p):y∈wt/\row y≠row p/\dep y<=dep p+1:=by
 have a:=B.known (List.mem_of_getElem? hp) hy h
 obtain⟨i,_,e⟩:=List.getElem_of_mem a
 exact⟨a,hne,B.near i y p hp (by grind)⟩
theorem BF.clash(B:BF adjL V0 row0 n root row above wt pl dep){p y}(hp:wt[pl]?=some p)(hy:y∈adjL p)(h:row y=row p):y∈wt/\dep y=dep p:=by
 have a:=List.mem_of_getElem? hp
 have f:=B.col p a
 have c:=B.known a hy (by grind)
 refine⟨c,?_⟩
 obtain⟨i,_,e⟩:=List.getElem_of_mem c
 have b:wt[i]?=some y:=by grind
 have _:=B.near i y p hp b
 have _:dep y%2=dep p%2:=by
  rw[B.col y c,f]at h
  exact ZgC (Option.some.inj h)
 by_cases d:i<pl
 ·exact absurd h.symm (B.done i y d b p (B.sym p y hy)).2.1
 ·have _:=B.mono pl i p y (by omega) hp b
  omega
theorem BF.add(B:BF adjL V0 row0 n root row above wt pl dep){p y}(hp:wt[pl]?=some p)(hy:y∈adjL p)(h:row y=none):
  BF adjL V0 row0 n root (put row y (some (1-tint (dep p)))) (put above y (some p)) (wt++[y]) pl (put dep y (dep p+1)):=by
 have k:=List.mem_of_getElem? hp
 have s:=fun z=>(B.vis y).mpr (.inl z) h
 have o:∀x,x∈wt->x≠y:=fun x c z=>(fun z=>(B.vis y).mpr (.inr z) h) (z▸c)
 have f:∀x,x∈wt->put _ y (dep p+1) x=dep x:=fun x c=>put_ne _ _ (o x c)
 have I:=(List.getElem?_eq_some_iff.mp hp).1
 have d:∀(i x),(wt++[y])[i]?=some x->(i<wt.length/\wt[i]?=some x)\/(i=wt.length/\x=y):=fun i x e=>by
  by_cases w:i<wt.length
  ·rw[List.getElem?_append_left w]at e
   exact .inl ⟨w,e⟩
  ·rw[List.getElem?_append_right (by omega)]at e
   have S:=(List.getElem?_eq_some_iff.mp e).1
   rw[List.length_singleton]at S
   have:i=wt.length:=by omega
   subst this
   rw[Nat.sub_self]at e
   cases e
   exact .inr ⟨rfl,rfl⟩
 have t:∀q,(wt++[y])[pl]?=some q->q=p:=fun q e=>by
  rw[List.getElem?_append_left I,hp]at e
  cases e
  rfl
 refine⟨B.sym,B.bnd,B.shut,fun x c=>?_,?_,fun x c=>?_,?_,fun x=>?_,fun x c=>?_,fun x c=>?_,?_,fun x c F=>?_,fun i j x z E A m=>?_,fun i x q A m=>?_,fun i x w e z L=>?_⟩
 ·rw[put_ne _ _ (fun z=>s (by rw[<-z];exact c))]
  exact B.old x c
 ·rw[List.nodup_append]
  exact⟨B.nd,List.nodup_cons.mpr ⟨List.not_mem_nil,List.nodup_nil⟩,fun a P b O z=>o a P (z.trans (List.mem_singleton.mp O))⟩
 ·rcases List.mem_append.mp c with z|z
  ·exact B.lt x z
  ·rw[List.mem_singleton.mp z]
   exact B.bnd p y hy
 ·rw[List.getElem?_append_left (by omega)]
  exact B.hd
 ·by_cases e:x=y
  ·subst e
   rw[put_same]
   exact⟨fun _=> .inr (List.mem_append_right _ (.head _)),fun _ z=>by cases z⟩
  ·rw[put_ne _ _ e,B.vis x]
   refine⟨fun z=>z.imp id fun z=>List.mem_append_left _ z,fun z=>z.imp id fun z=>?_⟩
   rcases List.mem_append.mp z with z|z
   ·exact z
   ·exact absurd (List.mem_singleton.mp z) e
 ·rcases List.mem_append.mp c with z|z
  ·exact B.disj x z
  ·rw[List.mem_singleton.mp z]
   exact s
 ·rcases List.mem_append.mp c with z|z
  ·rw[put_ne _ _ (o x z),f x z]
   exact B.col x z
  ·rw[List.mem_singleton.mp z,put_same,put_same,Zes]
 ·rw[f _ (List.mem_of_getElem? B.hd)]
  exact B.d0
 ·rcases List.mem_append.mp c with z|z
  ·obtain⟨q,J,K,N,R⟩:=B.par x z F
   exact⟨q,List.mem_append_left _ J,by rw[put_ne _ _ (o x z)];exact K,N,by rw[f x z,f q J];exact R⟩
  ·rw[List.mem_singleton.mp z]
   exact⟨p,List.mem_append_left _ k,put_same _ _ _,hy,by rw[put_same,f p k]⟩
 ·rcases d i x A with⟨u,r⟩|⟨u,r⟩
  ·have g:=List.mem_of_getElem? r
   rw[f x g]
   rcases d j z m with⟨D,l⟩|⟨D,l⟩
   ·rw[f z (List.mem_of_getElem? l)]
    exact B.mono i j x z E r l
   ·rw[l,put_same]
    exact B.near i x p hp r
  ·rcases d j z m with⟨D,l⟩|⟨D,l⟩
   ·omega
   ·rw[r,l]
    exact Nat.le_refl _
 ·rw[t q A,f p k]
  rcases d i x m with⟨u,m⟩|⟨u,rfl⟩
  ·rw[f x (List.mem_of_getElem? m)]
   exact B.near i x p hp m
  ·rw[put_same]
   exact Nat.le_refl _
 ·rcases d i x e with⟨u,e⟩|⟨u,_⟩
  ·have g:=List.mem_of_getElem? e
   obtain⟨C,Q,M⟩:=B.done i x w e z L
   refine⟨List.mem_append_left _ C,?_,?_⟩
   ·rw[put_ne _ _ (o z C),put_ne _ _ (o x g)]
    exact Q
   ·rw[f z C,f x g]
    exact M
  ·omega
theorem Part.add(B:BF adjL V0 row0 n root row above wt pl dep){p y k}(hp:wt[pl]?=some p)(hk:(adjL p)[k]?=some y)(h:row y=none)(A:Part adjL row wt dep p k):
  Part adjL (put row y (some (1-tint (dep p)))) (wt++[y]) (put dep y (dep p+1)) p (k+1):=by
 have a:=List.mem_of_getElem? hp
 have c:∀x,x∈wt->x≠y:=fun x e z=>(fun z=>(B.vis y).mpr (.inr z) h) (z▸e)
 intro z b
 rw[List.take_add_one,hk]at b
 rw[put_ne _ _ (c p a),put_ne _ _ (c p a)]
 rcases List.mem_append.mp b with b|b
 ·obtain⟨d,_,_⟩:=A z b
  rw[put_ne _ _ (c z d),put_ne _ _ (c z d)]
  simp_all
 ·rw[List.mem_singleton.mp b,put_same,put_same]
  refine⟨List.mem_append_right _ (.head _),?_,Nat.le_refl _⟩
  rw[B.col p a]
  grind
theorem Part.skip(B:BF adjL V0 row0 n root row above wt pl dep){p y k}(hp:wt[pl]?=some p)(hk:(adjL p)[k]?=some y)(h:row y≠none)(hne:row y≠row p)(A:Part adjL row wt dep p k):Part adjL row wt dep p (k+1):=by
 intro z a
 rw[List.take_add_one,hk]at a
 rcases List.mem_append.mp a with a|a
 ·exact A z a
 ·rw[List.mem_singleton.mp a]
  exact B.skip hp (List.mem_of_getElem? hk) h hne
theorem BF.next(B:BF adjL V0 row0 n root row above wt pl dep){p}(hp:wt[pl]?=some p)(A:Part adjL row wt dep p (adjL p).length):BF adjL V0 row0 n root row above wt (pl+1) dep:=by
 refine{B with near:=fun i x q a c=>?_,done:=fun i x _ e y b=>?_}
 ·have _:=B.near i x p hp c
  have _:=B.mono pl _ p q (by omega) hp a
  omega
 ·by_cases h:i<pl
  ·exact B.done i x h e y b
  ·have:i=pl:=by omega
   subst this
   rw[hp]at e
   cases e
   exact A y (by grind)
theorem BF.finish(B:BF adjL V0 row0 n root row above wt pl dep)(hl:wt.length<=pl):Zh8 adjL (fun x=>V0 x\/x∈wt) row:=by
 refine⟨B.vis,fun x a y d=>?_⟩
 rcases a with a|a
 ·obtain⟨b,c⟩:=B.shut.cl x a y d
  exact⟨.inl b,by rw[B.old x a,B.old y b];exact c⟩
 ·obtain⟨i,_,e⟩:=List.getElem_of_mem a
  obtain⟨b,c,_⟩:=B.done i x (by omega) (by grind) y d
  exact⟨.inr b,c⟩
theorem BF.zero(B:BF adjL V0 row0 n root row above wt pl dep){x}(hx:x∈wt)(h:dep x=0):x=root:=by
 by_cases e:x=root
 ·exact e
 ·obtain⟨y,_,_,_,_⟩:=B.par x hx e
  omega
end
def it(par:Nat->Nat)(x:Nat):Nat->Nat
 |0=>x
 |i+1=>par (it par x i)
def parOf(above:Nat->Option Nat)(x:Nat):Nat:=(above x).getD 0
section
variable{adjL:Nat->List Nat}{V0:Nat->Prop}{row0 row:Nat->Option Int}{n root:Nat}{above:Nat->Option Nat}{wt:List Nat}{pl:Nat}{dep:Nat->Nat}
theorem BF.up(B:BF adjL V0 row0 n root row above wt pl dep){x}(hx:x∈wt):∀i,i<=dep x->it (parOf above) x i∈wt/\dep (it (parOf above) x i)+i=dep x
 |0,_=>⟨hx,rfl⟩
 |i+1,h=>by
  obtain⟨b,c⟩:=B.up hx i (by omega)
  obtain⟨y,_,a,_,_⟩:=B.par _ b (show it _ x i≠root from fun z=>by rw[z,B.d0]at c;omega)
  rw[(show it _ x _=y by show(above _).getD 0=y;rw[a];rfl)]
  grind
theorem BF.upTie(B:BF adjL V0 row0 n root row above wt pl dep){x}(hx:x∈wt)(i)(h:i<dep x):above (it (parOf above) x i)=some (it (parOf above) x (i+1))/\it (parOf above) x i∈adjL (it (parOf above) x (i+1)):=by
 obtain⟨d,b⟩:=B.up hx i (by omega)
 obtain⟨y,_,a,c,_⟩:=B.par _ d (show it _ x i≠root from fun z=>by rw[z,B.d0]at b;omega)
 rw[(show it _ x (i+1)=y by show(above _).getD 0=y;rw[a];rfl)]
 exact⟨a,c⟩
theorem BF.upEnd(B:BF adjL V0 row0 n root row above wt pl dep){x}(hx:x∈wt):it (parOf above) x (dep x)=root:=by
 obtain⟨a,_⟩:=B.up hx _ (Nat.le_refl _)
 exact B.zero a (by omega)
def ring(par:Nat->Nat)(a b m:Nat):List Nat:=(List.range (m+1)).map (it par a)++((List.range m).map (it par b)).reverse
theorem ring_len(par)(a b m):(ring par a b m).length=2*m+1:=by
 unfold ring
 grind
theorem Zc7(par)(a b m k)(h:k<2*m+1):(ring par a b m).getD k 0=if k<=m then it par a k else it par b (2*m-k):=by
 unfold ring
 rw[List.getD_eq_getElem?_getD]
 by_cases c:k<=m
 ·rw[if_pos c,List.getElem?_append_left (by grind),List.getElem?_map,List.getElem?_range (by omega)]
  rfl
 ·rw[if_neg c,List.getElem?_append_right (by grind),List.getElem?_reverse (by grind),List.getElem?_map,List.length_map,List.length_map,List.length_range,List.length_range,List.getElem?_range (by omega)]
  grind
theorem BF.ring_ok(B:BF adjL V0 row0 n root row above wt pl dep){a b m}(ha:a∈wt)(hb:b∈wt)(hd:dep b=dep a)(hab:a≠b)(tie:b∈adjL a)(hm:m<=dep a)(meet:it (parOf above) a m=it (parOf above) b m)(first:∀i,i<m->it (parOf above) a i≠it (parOf above) b i):
  1<=m/\(∀x∈ring (parOf above) a b m,x<n)/\(ring (parOf above) a b m).Nodup/\∀k,k<2*m+1->(ring (parOf above) a b m).getD k 0∈adjL ((ring (parOf above) a b m).getD (if k=0 then 2*m else k-1) 0):=by
 have r:1<=m:=by
  cases m with
  |zero=>exact absurd meet hab
  |_ m=>omega
 refine⟨r,fun x l=>?_,?_,fun k q=>?_⟩
 ·rcases List.mem_append.mp l with h|h
  ·obtain⟨i,c,rfl⟩:=List.mem_map.mp h
   rw[List.mem_range]at c
   exact B.lt _ (B.up ha i (by omega)).1
  ·rw[List.mem_reverse]at h
   obtain⟨i,c,rfl⟩:=List.mem_map.mp h
   rw[List.mem_range]at c
   exact B.lt _ (B.up hb i (by omega)).1
 ·unfold ring
  rw[List.nodup_append]
  refine⟨?_,?_,fun x l y p e=>?_⟩
  ·rw[List.Nodup,List.pairwise_map]
   refine List.Pairwise.imp_of_mem (fun{i j} c f h=>?_) (List.nodup_range (n:=m+1))
   rw[List.mem_range]at c f
   intro z
   have d:=(B.up ha i (by omega)).2
   have g:=(B.up ha j (by omega)).2
   rw[z]at d
   exact h (by omega)
  ·rw[List.Nodup,List.pairwise_reverse,List.pairwise_map]
   refine List.Pairwise.imp_of_mem (fun{i j} c f h=>?_) (List.nodup_range (n:=m))
   rw[List.mem_range]at c f
   intro z
   have d:=(B.up hb i (by omega)).2
   have g:=(B.up hb j (by omega)).2
   rw[<-z]at d
   exact h (by omega)
  ·obtain⟨i,c,rfl⟩:=List.mem_map.mp l
   rw[List.mem_reverse]at p
   obtain⟨j,f,rfl⟩:=List.mem_map.mp p
   rw[List.mem_range]at c f
   have d:=(B.up ha i (by omega)).2
   have g:=(B.up hb j (by omega)).2
   rw[e]at d
   have:i=j:=by omega
   subst this
   exact first i f e
 ·rw[Zc7 _ _ _ _ _ q,Zc7 _ _ _ _ _ (by split<;>omega)]
  by_cases o:k=0
  ·subst o
   rw[if_pos rfl,if_pos (Nat.zero_le _),if_neg (by omega),Nat.sub_self]
   exact B.sym _ _ tie
  ·rw[if_neg o]
   by_cases d:k<=m
   ·rw[if_pos d,if_pos (by omega)]
    have h:=(B.upTie ha (k-1) (by omega)).2
    rw[show k-1+1=k by omega]at h
    exact B.sym _ _ h
   ·rw[if_neg d]
    have h:=(B.upTie hb (2*m-k) (by omega)).2
    by_cases g:k-1<=m
    ·grind
    ·rw[if_neg g]
     rw[show 2*m-k+1=2*m-(k-1) by omega]at h
     exact h
end
def Zlj(adjL:Nat->List Nat)(x y:Nat):Prop:=∀L:Nat->Nat,(∀u v,v∈adjL u->L u=L v)->L x=L y
structure Out(adjL:Nat->List Nat)(V:Nat->Prop)(row:Nat->Option Int)(rt:Nat->Nat)(r:Nat):Prop where
 shut:Zh8 adjL V row
 all:∀x,x<r->V x
 bit:∀x,V x->row x=some 0\/row x=some 1
 zero:∀x,V x->row (rt x)=some 0
 low:∀x,V x->rt x<=x
 conn:∀x,V x->Zlj adjL x (rt x)
 next:∀x,V x->∀y∈adjL x,rt y=rt x
section
variable{adjL:Nat->List Nat}{V0:Nat->Prop}{row0 row:Nat->Option Int}{n root:Nat}{above:Nat->Option Nat}{wt:List Nat}{pl:Nat}{dep:Nat->Nat}{rt:Nat->Nat}
theorem Out.start:Out adjL (fun _=>False) (fun _=>none) (fun x=>x) 0:=
 ⟨⟨fun x=>⟨fun h=>h rfl,fun h=>h.elim⟩,fun x h=>h.elim⟩,fun x h=>absurd h (Nat.not_lt_zero _),fun x h=>h.elim,fun x h=>h.elim,fun x h=>h.elim,fun x h=>h.elim,fun x h=>h.elim⟩
theorem Out.skip(O:Out adjL V0 row rt root)(h:row root≠none):Out adjL V0 row rt (root+1):=by
 refine{O with all:=fun x _=>?_}
 by_cases e:x=root
 ·rw[e]
  exact(O.shut.vis _).mp h
 ·exact O.all x (by omega)
theorem BF.conn(B:BF adjL V0 row0 n root row above wt pl dep){x}(hx:x∈wt):Zlj adjL x root:=by
 intro L a
 have h:∀i,i<=dep x->L x=L (it (parOf above) x i):=by
  intro i
  induction i with
  |zero=>intro _;rfl
  |_ i b=>
   intro _
   rw[b (by omega)]
   exact(a _ _ (B.upTie hx i (by omega)).2).symm
 rw[h _ (Nat.le_refl _),B.upEnd hx]
theorem Out.walk(O:Out adjL V0 row0 rt root)(B:BF adjL V0 row0 n root row above wt pl dep)(hl:wt.length<=pl):∃rt',Out adjL (fun x=>V0 x\/x∈wt) row rt' (root+1):=by
 have f:=List.mem_of_getElem? B.hd
 have b:=fun x h z=>B.disj x z h
 have S:=B.finish hl
 refine⟨fun x=>if x∈wt then root else rt x,S,fun x a=>?_,fun x a=>?_,fun x a=>?_,fun x a=>?_,fun x a=>?_,fun x a y c=>?_⟩
 ·by_cases e:x=root
  ·rw[e];exact .inr f
  ·exact .inl (O.all x (by omega))
 ·rcases a with a|a
  ·rw[B.old x a]
   exact O.bit x a
  ·rw[B.col x a]
   unfold tint
   grind
 ·rcases a with a|a
  ·skip
   rw[if_neg (b x a)]
   have h:=O.zero x a
   rw[B.old _ ((O.shut.vis _).mp (by rw[h];intro z;cases z))]
   exact h
  ·skip
   rw[if_pos a,B.col _ f,B.d0]
   rfl
 ·rcases a with a|a
  ·skip
   rw[if_neg (b x a)]
   exact O.low x a
  ·skip
   rw[if_pos a]
   by_cases h:x<root
   ·exact absurd (O.all x h) (B.disj x a)
   ·omega
 ·rcases a with a|a
  ·skip
   rw[if_neg (b x a)]
   exact O.conn x a
  ·skip
   rw[if_pos a]
   exact B.conn a
 ·rcases a with a|a
  ·rw[if_neg (b x a),if_neg (b y ((O.shut.cl x a y c).1))]
   exact O.next x a y c
  ·rw[if_pos a,if_pos (B.known a c ((S.vis y).mpr ((S.cl x (.inr a) y c).1)))]
end
structure Zcu where
 clash:Option (Nat×Nat)
 row:Nat->Option Int
 above:Nat->Option Nat
def goN(p:Nat)(k:(Nat->Option Int)->(Nat->Option Nat)->List Nat->Zcu):List Nat->(Nat->Option Int)->(Nat->Option Nat)->List Nat->Zcu
 |[],r,a,w=>k r a w
 |y::ys,r,a,w=>if r y=none then goN p k ys (put r y (some (1-(r p).getD 0))) (put a y (some p)) (w++[y])else if r y=r p then⟨some (p,y),r,a⟩else goN p k ys r a w
def goW(adjL:Nat->List Nat):Nat->Nat->(Nat->Option Int)->(Nat->Option Nat)->List Nat->Zcu
 |0,_,r,a,_=>⟨none,r,a⟩
 |f+1,pl,r,a,w=>match w[pl]? with
  |none=>⟨none,r,a⟩
  |some p=>goN p (goW adjL f (pl+1)) (adjL p) r a w
theorem Zhj(adjL)(f pl)(r)(a)(w)(h:w.length<=pl):goW adjL f pl r a w=⟨none,r,a⟩:=by
 cases f with
 |zero=>rfl
 |_ f=>unfold goW;simp_all
theorem ZfU(adjL)(f pl p)(r)(a)(w)(h:w[pl]?=some p):goW adjL (f+1) pl r a w=goN p (goW adjL f (pl+1)) (adjL p) r a w:=by
 show(match w[pl]? with|none=>(⟨_,r,a⟩:Zcu)|some p=>goN p _ _ r a w)=_
 rw[h]
end Sd
namespace Sd
open PySem L2 My
theorem J1:∀(n)(l:List _),l.Nodup->(∀x∈l,x<n)->l.length<=n
 |0,l,_,h=>by
  cases l with
  |nil=>exact Nat.le_refl _
  |_ x l=>exact absurd (h x (.head _)) (Nat.not_lt_zero _)
 |n+1,l,a,h=>by
  have _:=J1 n _ (a.erase n) fun x _=>by
   grind
  grind
def ov(f:Nat->Option Int)(i:Nat):V:=match f i with|none=> .non|some v=> .int v
def ol(f:Nat->Option Int)(n:Nat):List V:=(List.range n).map (ov f)
def up1(f:Nat->Option Nat)(i:Nat):Option Int:=(f i).map fun x:Nat=>x
theorem Zap(f)(n):(ol f n).length=n:=by unfold ol;grind
theorem JG(f){n k}(h:k<n):(ol f n)[k]?=some (ov f k):=by
 unfold ol
 simp_all
theorem Zdy(f)(n k)(v):(ol f n).set k (.int v)=ol (put f k (some v)) n:=by
 apply List.ext_getElem?
 intro i
 by_cases a:i<n
 ·rw[JG _ a,List.getElem?_set]
  unfold ov
  by_cases e:k=i
  ·subst e
   rw[if_pos rfl,if_pos (by rw[Zap];exact a),put_same]
  ·rw[if_neg e,JG _ a,put_ne _ _ (fun z=>e z.symm)]
   rfl
 ·rw[List.getElem?_eq_none (by rw[List.length_set,Zap];omega),List.getElem?_eq_none (by rw[Zap];omega)]
theorem Zg7(f)(k p):up1 (put f k (some p))=put (up1 f) k (some p):=by
 funext i
 unfold up1 put
 split<;>rfl
theorem ov_none{f}{i}:ov f i= .non↔f i=none:=by
 unfold ov
 grind
def nl(l:List Nat):List V:=l.map fun x:Nat=>V.int x
theorem nl_get{l}{i x:Nat}(h:l[i]?=some x):(nl l)[i]?=some (.int x):=by unfold nl;simp_all
theorem nl_len(l):(nl l).length=l.length:=by unfold nl;rw[List.length_map]
structure Zcv(H:Hp)(Ta:Addr)(tl:List Addr)(adjL:Nat->List Nat)(n:Nat):Prop where
 top:H Ta=some (.lst (tl.map V.ref))
 len:tl.length=n
 row:∀(i:Nat) a,tl[i]?=some a->H a=some (.lst (nl (adjL i)))
def Sm2(x y:Addr)(H H':Hp):Prop:=∀b o,H b=some o->b≠x->b≠y->H' b=some o
structure SpSt(H0 H:Hp)(Ra Aa Wa:Addr)(n:Nat)(row:Nat->Option Int)(above:Nat->Option Nat)(wt:List Nat):Prop where
 r:H Ra=some (.lst (ol row n))
 a:H Aa=some (.lst (ol (up1 above) n))
 w:H Wa=some (.lst (nl wt))
 s:Sm2 Ra Aa H0 H
theorem SpSt.same{H0 H H'}{Ra Aa Wa}{n}{row}{above}{wt}(S:SpSt H0 H Ra Aa Wa n row above wt)(h:Same H H'):SpSt H0 H' Ra Aa Wa n row above wt:=
 ⟨h _ _ S.r,h _ _ S.a,h _ _ S.w,fun b o e c d=>h _ _ (S.s b o e c d)⟩
section
variable{P:Program}{w:World}{K:PySem.W.Frag}{mg:Str->Option Value}{base:Heap}{Pt c:Addr}
abbrev sSpr:Stmt:=top 47
abbrev ZlQ:List Str:=["tied","row","above","root","waiting","place","point","near"]
inductive spSpr(vs:List V)(H:Hp)(Q:VK)(_z3:XK):Prop
 |mk (Ta Ra Aa:Addr) (tl:List Addr) (adjL:Nat->List Nat) (V0:Nat->Prop) (row0:Nat->Option Int) (above:Nat->Option Nat) (n root:Nat) (_:vs=[.ref Ta,.ref Ra,.ref Aa,.int (root:Int)]) (_:Zcv H Ta tl adjL n) (_:H Ra=some (.lst (ol (put row0 root (some 0)) n))) (_:H Aa=some (.lst (ol (up1 above) n))) (_:Ra≠Aa) (_:(∀a∈Ta::tl,a≠Ra/\a≠Aa)) (_:n<=60) (_:BF adjL V0 row0 n root (put row0 root (some 0)) above [root] 0 (fun _=>0)) (_:∀(H')(row')(above')(wt)(pl)(dep),Sm2 Ra Aa H H'->H' Ra=some (.lst (ol row' n))->H' Aa=some (.lst (ol (up1 above') n))->BF adjL V0 row0 n root row' above' wt pl dep->(wt.length<=pl->goW adjL n 0 (put row0 root (some 0)) above [root]=⟨none,row',above'⟩->Q .non H')/\∀(t)(p y),goW adjL n 0 (put row0 root (some 0)) above [root]=⟨some (p,y),row',above'⟩->H' t=some (.tup [.int p,.int y])->p∈wt->y∈wt->y∈adjL p->dep y=dep p->Q (.ref t) H')
theorem scSpr:Zr ZlQ ["tied","row","above","root"] (Zh sSpr):=⟨rfl,rfl,rfl,by decide+kernel,rfl,by decide+kernel,by decide+kernel⟩
theorem ok_spr{f}{fd}(F:Fun K "spread" "spread" sSpr f fd)(T:Bi mg):FnOk P w K mg base CX0 1 f fd ["tied","row","above","root"] spSpr:=by
 refine F.ok scSpr (fun vs H Q E h=>?_) (fun cdv A outer s H vs Q E hr h=>?_)
 ·obtain⟨Ta,Ra,Aa,tl,g,V0,row0,d,n,j,rfl,_⟩:=h
  rfl
 ·obtain⟨Ta,Ra,Aa,tl,g,V0,row0,above0,n,j,rfl,TA,hR0,hA0,hRA,hne,h60,B0,q⟩:=h
  refine⟨_,Zb (Zj (i:=4) scSpr.nd rfl (Or.inl rfl) (Yd (Zc (pv 3) Za)))
   (Zb (Zj (i:=5) scSpr.nd rfl (Or.inl rfl) Ze)
   (Zb (Jp PassesOwn.never (Zm Zax (pv 5) (Zn Zx rfl T.len YD (Zc (pv 4) Za)) (Zv _))
    (Zb (Zj (i:=6) scSpr.nd rfl (Or.inl rfl) (Zl Z6 (pv 4) (pv 5) (fun _ _=>rfl)))
    (Zb (Zi2 (i:=5) scSpr.nd rfl (Or.inl rfl) Ze Zd8)
    (Zg (ZL PassesOwn.never rfl (JS (Zl Z6 (pv 0) (pv 6) (fun _ _=>rfl))) (Zq (i:=7) scSpr.nd rfl (Or.inl rfl))
     (Zg (Z0 (Zm Zcj (Zl Z6 (pv 1) (pv 7) (fun _ _=>rfl)) ZM (Zv _))
      (Zb (Yq (Zp Jq Ze (Zl Z6 (pv 1) (pv 6) (fun _ _=>rfl))) (Jd (pv 1) (pv 7) ZU))
      (Zb (Yq (pv 6) (Jd (pv 2) (pv 7) ZU))
      (Zg (ZH (YT PySem.F.plainAttrs_list PySem.F.slot_list_append PySem.F.type_list_append ZX (pv 4) (Zc (pv 7) Za))))))
      (Zg (Z0 (Zm ZI (Zl Z6 (pv 1) (pv 7) (fun _ _=>rfl)) (Zl Z6 (pv 1) (pv 6) (fun _ _=>rfl)) (Zv _)) (Zg (Zs (Z5 (Zc (pv 6) (Zc (pv 7) Za))))) Zt))))))))
   ) (Zg (Zs ZM)))),_,rfl,(by show 1<=sizeLine;decide),fun Wa hW=>?_⟩
  have nR:Wa≠Ra:=fun z=>by rw[z,hR0]at hW;cases hW
  have nA:Wa≠Aa:=fun z=>by rw[z,hA0]at hW;cases hW
  have tied:∀{H'},Sm2 Ra Aa H H'->Zcv H' Ta tl g n:=fun{H'} s'=>⟨s' _ _ TA.top (hne Ta (.head _)).1 (hne Ta (.head _)).2,TA.len,fun i a e=>s' _ _ (TA.row i a e) (hne a (.tail _ (List.mem_of_getElem? e))).1 (hne a (.tail _ (List.mem_of_getElem? e))).2⟩
  refine⟨fun m σ H'=>∃row d wt pl dep v6 v7,m=n-pl/\σ=[some (.ref Ta),some (.ref Ra),some (.ref Aa),some (.int j),some (.ref Wa),some (.int ((pl:Nat))),v6,v7]/\SpSt H H' Ra Aa Wa n row d wt/\BF g V0 row0 n j row d wt pl dep/\goW g (n-pl) pl row d wt=goW g n 0 (put row0 j (some 0)) above0 [j],
   ⟨_,_,_,_,0,_,none,none,rfl,rfl,(show SpSt H (upd H Wa (.lst [.int j])) Ra Aa Wa n (put row0 j (some 0)) above0 [j]from⟨by rw[Zf (Ne.symm nR)];exact hR0,by rw[Zf (Ne.symm nA)];exact hA0,by rw[Zd];rfl,fun b o e _ _=>Zi hW b o e⟩),B0,rfl⟩,?_⟩
  rintro m σ H' ⟨row,d,wt,pl,dep,v6,v7,rfl,rfl,st,B,hG⟩
  refine⟨_,rfl,_,rfl,Wa,_,rfl,.inl (SqL.of st.w),_,_,rfl,rfl,_,rfl,?_⟩
  have hwn:wt.length<=n:=J1 n wt B.nd B.lt
  refine ZF (fun hlt=>?_) (fun hlt=>?_)
  ·have hlt':pl<wt.length:=by
    have:=of_decide_eq_true hlt
    rw[nl_len]at this
    omega
   refine⟨fun σ' H'=>∃m',m'<n-pl/\∃row d wt pl dep v6 v7,m'=n-pl/\σ'=[some (.ref Ta),some (.ref Ra),some (.ref Aa),some (.int j),some (.ref Wa),some (.int ((pl:Nat))),v6,v7]/\SpSt H H' Ra Aa Wa n row d wt/\BF g V0 row0 n j row d wt pl dep/\goW g (n-pl) pl row d wt=goW g n 0 (put row0 j (some 0)) above0 [j],fun _ _ h=>h,?_⟩
   have hp:wt[pl]?=some wt[pl]:=List.getElem?_eq_getElem hlt'
   generalize hpe:wt[pl]=p at hp
   have hpn:p<n:=B.lt p (List.mem_of_getElem? hp)
   have hpt:p<tl.length:=by rw[TA.len];exact hpn
   have TA1:=tied st.s
   refine⟨_,rfl,_,rfl,Wa,_,_,_,rfl,rfl,SqL.of st.w,Z3 (nl_get hp),_,rfl,_,_,rfl,rfl,_,rfl,_,rfl,Ta,_,_,.ref tl[p],rfl,rfl,SqL.of TA1.top,Z3 (by rw[List.getElem?_map,List.getElem?_eq_getElem hpt];rfl),tl[p],rfl,⟨_,SqL.of (TA1.row p tl[p] (List.getElem?_eq_getElem hpt))⟩,
    Jv (K:=K) (a:=tl[p]) (xs:=nl (g p)) (fun k σ H2=>∃row d wt dep v7,σ=[some (.ref Ta),some (.ref Ra),some (.ref Aa),some (.int j),some (.ref Wa),some (.int (pl+1)),some (.int p),v7]/\SpSt H H2 Ra Aa Wa n row d wt/\BF g V0 row0 n j row d wt pl dep/\wt[pl]?=some p/\Part g row wt dep p k/\goN p (goW g (n-(pl+1)) (pl+1)) ((g p).drop k) row d wt=goW g n 0 (put row0 j (some 0)) above0 [j])
     ⟨row,d,wt,dep,_,rfl,st,B,hp,(fun y hy=>by rw[List.take_zero]at hy;cases hy),by rw[List.drop_zero,<-ZfU g (n-(pl+1)) pl p row d wt hp,show n-(pl+1)+1=n-pl by omega];exact hG⟩ (fun k σ H2 _⟨row,d,wt,dep,v7,_,st2,_⟩=>SqL.of ((tied st2.s).row p tl[p] (List.getElem?_eq_getElem hpt))) (fun k x σ H2 hx xq1=>?_) (fun σ H2 xq1=>?_)⟩
   ·obtain⟨l,above2,wt2,dep2,v7,e,st2,B2,hp2,A2,hG2⟩:=xq1
    subst e
    obtain⟨y,hy,rfl⟩:∃y,(g p)[k]?=some y/\x=V.int (y:Int):=by
     unfold nl at hx
     rw[List.getElem?_map]at hx
     cases z:(g p)[k]? with
     |none=>rw[z]at hx;cases hx
     |some y=>rw[z]at hx;cases hx;exact⟨y,rfl,rfl⟩
    have hya:y∈g p:=List.mem_of_getElem? hy
    have hdr:(g p).drop k=y::(g p).drop (k+1):=by
     obtain⟨hk,ek⟩:=List.getElem?_eq_some_iff.mp hy
     rw[<-ek]
     exact List.drop_eq_getElem_cons hk
    rw[hdr]at hG2
    unfold goN at hG2
    have hyn:y<n:=B2.bnd p y hya
    have hpw:=List.mem_of_getElem? hp2
    have rowp:(ol l n)[p]?=some (.int (tint (dep2 p))):=by rw[JG _ hpn];unfold ov;rw[B2.col p hpw]
    refine⟨_,rfl,_,rfl,Ra,_,_,ov l y,rfl,rfl,SqL.of st2.r,Z3 (JG _ hyn),rfl,_,rfl,ZF (fun hz=>?_) (fun hz=>?_)⟩
    ·have hz':l y=none:=ov_none.mp (of_decide_eq_true hz)
     refine⟨_,rfl,_,rfl,Ra,_,_,.int (tint (dep2 p)),rfl,rfl,SqL.of st2.r,Z3 rowp,_,_,rfl,rfl,_,rfl,_,rfl,Ra,_,y,rfl,rfl,st2.r,by rw[Zap];exact hyn,_,rfl,_,rfl,_,rfl,Aa,ol (up1 above2) n,y,rfl,rfl,by rw[Zf (Ne.symm hRA)];exact st2.a,by rw[Zap];exact hyn,?_⟩
     have hw3:(upd (upd H2 Ra (.lst ((ol l n).set y (.int (1-tint (dep2 p)))))) Aa (.lst ((ol (up1 above2) n).set y (.int (p:Int))))) Wa=some (.lst (nl wt2)):=by rw[Zf nA,Zf nR];exact st2.w
     have hwl:wt2.length<=n:=J1 n wt2 B2.nd B2.lt
     refine⟨_,rfl,.inl ⟨rfl,_,SqL.of hw3⟩,_,rfl,Wa,_,_,rfl,rfl,hw3,(by rw[nl_len,sizeLine_eq];omega),_,_,_,_,_,rfl,?_,B2.add hp2 hya hz',by rw[List.getElem?_append_left (List.getElem?_eq_some_iff.mp hp2).1];exact hp2,Part.add B2 hp2 hy hz' A2,by rw[if_pos hz',B2.col p hpw]at hG2;exact hG2⟩
     refine⟨?_,?_,?_,fun b o e h1 h2=>?_⟩
     ·rw[Zf (Ne.symm nR),Zf hRA,Zd,Zdy]
     ·rw[Zf (Ne.symm nA),Zd,Zdy,Zg7]
     ·rw[Zd]
      unfold nl
      rw[List.map_append]
      rfl
     ·rw[Zf (show b≠Wa from fun z=>by rw[z,hW]at e;cases e),Zf h2,Zf h1]
      exact st2.s b o e h1 h2
    ·have hz':l y≠none:=fun z=>hz (decide_eq_true (ov_none.mpr z))
     obtain⟨v,hv⟩:∃v,l y=some v:=Option.ne_none_iff_exists'.mp hz'
     refine⟨_,rfl,_,rfl,Ra,_,_,.int v,rfl,rfl,SqL.of st2.r,Z3 (show(ol l n)[y]?=some (.int v) by rw[JG _ hyn];unfold ov;rw[hv]),_,rfl,_,rfl,Ra,_,_,.int (tint (dep2 p)),rfl,rfl,SqL.of st2.r,Z3 rowp,rfl,_,rfl,ZF (fun he=>?_) (fun he=>?_)⟩
     ·have he':l y=l p:=by
       have:=of_decide_eq_true he
       rw[hv,B2.col p hpw]
       cases this
       rfl
      obtain⟨c1,c2⟩:=B2.clash hp2 hya he'
      refine⟨_,rfl,_,rfl,rfl,fun t H3 s3 ht=>?_⟩
      have st3:=st2.same s3
      rw[if_neg hz',if_pos he']at hG2
      exact(q H3 l above2 wt2 pl dep2 st3.s st3.r st3.a B2).2 t p y hG2.symm ht hpw c1 hya c2
     ·have he':l y≠l p:=fun z=>he (decide_eq_true (by rw[hv,B2.col p hpw]at z;rw[Option.some.inj z]))
      exact⟨_,_,_,_,_,rfl,st2,B2,hp2,Part.skip B2 hp2 hy hz' he' A2,by rw[if_neg hz',if_neg he']at hG2;exact hG2⟩
   ·obtain⟨l,above2,wt2,dep2,v7,e,st2,B2,hp2,A2,hG2⟩:=xq1
    subst e
    rw[nl_len]at A2 hG2
    rw[List.drop_length]at hG2
    exact⟨n-(pl+1),by omega,l,above2,wt2,pl+1,dep2,_,_,rfl,rfl,st2,B2.next hp2 A2,hG2⟩
  ·have hle:wt.length<=pl:=by
    rw[<-nl_len]
    have:¬((pl:Int)<((nl wt).length:Int)):=fun z=>hlt (decide_eq_true z)
    omega
   exact(q H' row d wt pl dep st.s st.r st.a B).1 hle (by rw[<-hG,Zhj g _ _ _ _ _ hle])
end
def compScope:Expr->Scope
 | .ListComp _ _ s _=>s
 | .Call _ [e] _ _=>compScope e
 | .Compare a _ _ _=>compScope a
 |_=>{kind:= .function,names:=[],isGenerator:=false,isCoroutine:=false}
def retE:Stmt->Expr
 | .Return (some e) _=>e
 | .Assign _ e _=>e
 |_=> .Constant .none 0 ⟨0,0,0,0⟩
def stOf(i k:Nat):Stmt:=(ZK (top i)).getD k (.Pass ⟨0,0,0,0⟩)
structure NetZ(H:Hp)(p:Addr)(n:Nat)(q:Addr)(ts:List V)(es:List (Nat×Nat)):Prop where
 e1:H p=some (.tup [.int (n:Int),.ref q])
 e2:H q=some (.tup ts)
 len:ts.length=es.length
 tie:∀(i:Nat) t,ts[i]?=some t->∃a,t=V.ref a/\H a=some (.tup [.int ((es.getD i (0,0)).1:Int),.int ((es.getD i (0,0)).2:Int)])
 l200:es.length<=200
 n60:n<=60
 ok:∀e∈es,e.1<n/\e.2<n/\e.1≠e.2
theorem NetZ.tk{H H':Hp}{p q:Addr}{n:Nat}{ts:List V}{es:List (Nat×Nat)}(h:NetZ H p n q ts es)(k:Tk H H'):NetZ H' p n q ts es:=
 ⟨k _ _ h.e1,k _ _ h.e2,h.len,fun i t e=>let⟨a,x,y⟩:=h.tie i t e;⟨a,x,k _ _ y⟩,h.l200,h.n60,h.ok⟩
def grow(F:Nat->List Nat)(k v:Nat):Nat->List Nat:=fun i=>if i=k then F i++[v]else F i
def adjF(es:List (Nat×Nat)):Nat->Nat->List Nat
 |0=>fun _=>[]
 |m+1=>grow (grow (adjF es m) (es.getD m (0,0)).1 (es.getD m (0,0)).2) (es.getD m (0,0)).2 (es.getD m (0,0)).1
theorem ZcJ{F}{k v i y}:y∈grow F k v i↔y∈F i\/(i=k/\y=v):=by
 unfold grow
 by_cases h:i=k
 ·simp_all
 ·grind
theorem mem_adjF(es)(x y):∀m,y∈adjF es m x↔∃k,k<m/\((x=(es.getD k (0,0)).1/\y=(es.getD k (0,0)).2)\/(x=(es.getD k (0,0)).2/\y=(es.getD k (0,0)).1))
 |0=>⟨(fun h=>by cases h),fun⟨k,h,_⟩=>absurd h (Nat.not_lt_zero _)⟩
 |m+1=>by
  unfold adjF
  rw[ZcJ,ZcJ,mem_adjF es x y m]
  constructor
  ·rintro((⟨k,_,a⟩|h)|h)
   ·exact⟨k,by omega,a⟩
   ·exact⟨m,by omega,.inl h⟩
   ·exact⟨m,by omega,.inr h⟩
  ·grind
theorem Zgv(es)(m x y)(h:y∈adjF es m x):x∈adjF es m y:=by
 rw[mem_adjF]at h⊢
 obtain⟨k,b,a⟩:=h
 exact⟨k,b,a.elim (fun z=> .inr ⟨z.2,z.1⟩) fun z=> .inl ⟨z.2,z.1⟩⟩
theorem getD_mem{es:List _}{k:Nat}(h:k<es.length):es.getD k (0,0)∈es:=by simp_all
theorem Zgw{H}{p q}{n}{ts}{es}(N:NetZ H p n q ts es)(x y)(h:y∈adjF es es.length x):y<n:=by
 rw[mem_adjF]at h
 obtain⟨k,c,d⟩:=h
 obtain⟨a,b,_⟩:=N.ok _ (getD_mem c)
 rcases d with z|z
 ·rw[z.2];exact b
 ·rw[z.2];exact a
theorem Zbt(es)(i):∀m,(adjF es m i).length<=2*m
 |0=>Nat.le_refl _
 |m+1=>by
  have h:=Zbt es i m
  unfold adjF grow
  grind
structure RS(H1 H:Hp)(R:Addr)(rs:List Addr)(F:Nat->List Nat):Prop where
 top:H R=some (.lst (rs.map V.ref))
 row:∀(i:Nat) a,rs[i]?=some a->H a=some (.lst (nl (F i)))
 same:Same H1 H
theorem RS.write{H1 H}{R a}{rs}{F}{k v}(st:RS H1 H R rs F)(nd:rs.Nodup)(hR:R ∉ rs)(fr:∀a∈rs,H1 a=none) (hk:rs[k]?=some a):RS H1 (upd H a (.lst (nl (F k)++[.int v]))) R rs (grow F k v):=by
 have c:=List.mem_of_getElem? hk
 refine⟨?_,fun i b e=>?_,fun _ _ g=>?_⟩
 ·rw[Zf (fun z=>hR (by rw[z];exact c))]
  exact st.top
 ·unfold grow
  by_cases f:i=k
  ·subst f
   rw[hk]at e
   cases e
   rw[Zd,if_pos rfl]
   unfold nl
   simp_all
  ·rw[if_neg f]
   have d:b≠a:=fun z=>by
    subst z
    obtain⟨m,l⟩:=List.getElem?_eq_some_iff.mp e
    obtain⟨h,j⟩:=List.getElem?_eq_some_iff.mp hk
    exact f ((List.getElem_inj (h₀:=m) (h₁:=h) nd).mp (l.trans j.symm))
   rw[Zf d]
   exact st.row i b e
 ·rw[Zf (Zk g (fr a c))]
  exact st.same _ _ g
section
variable{P:Program}{w:World}{K:PySem.W.Frag}{mg:Str->Option Value}{base:Heap}{Pt c:Addr}
abbrev sNb:Stmt:=top 46
abbrev ZgZ:Scope:=compScope (retE (stOf 46 0))
abbrev nNb:List Str:=["net","point","tied","one","other"]
inductive spNb(vs:List V)(H:Hp)(Q:VK)(_z3:XK):Prop
 |mk (p n q ts es:_) (_:vs=[.ref p]) (_:NetZ H p n q ts es) (_:∀H' Ta tl,Same H H'->Zcv H' Ta tl (adjF es es.length) n->Q (.ref Ta) H')
theorem ZlL:(["point"]:List Str).Nodup:=by decide+kernel
theorem scNb:Zr nNb ["net"] (Zh sNb):=⟨rfl,rfl,rfl,by decide+kernel,rfl,by decide+kernel,by decide+kernel⟩
theorem ZkX{f}{cdv}{A}{outer}{s}{H}{E}:
  Blk (Yk CX0 P w K mg base nNb "neighbours" (Zh sNb) f cdv A outer s H E).nox ZgZ [] ["point"] [none]:=by
 refine⟨rfl,rfl,by decide+kernel,by decide+kernel,fun p c=>(by cases c),fun y d e=>?_,trivial⟩
 have _:y∈[((PySem.Str.ofString _),NameKind.local),(PySem.Str.ofString _,.local)]:=d
 grind
theorem ok_nb{f}{fd}(F:Fun K "neighbours" "neighbours" sNb f fd)(T:Bi mg):FnOk P w K mg base CX0 1 f fd ["net"] spNb:=by
 refine F.ok scNb (fun vs H Q E h=>?_) (fun cdv A outer s H vs Q E hr h=>?_)
 ·obtain⟨p,n,q,ts,j,rfl,_⟩:=h
  rfl
 ·obtain⟨p,n,qa,ts,j,rfl,N,q⟩:=h
  refine⟨_,Zb (Zi1 ZkX rfl rfl T.range (Zc (Zl Zo (pv 0) Ze (fun _ _=>rfl)) Za) (Z2 (YU (Z9 0) (Zar _)) ZY) rfl (fun C fp s H=>Zq (i:=0) ZlL rfl (Or.inl rfl)) (fun C fp s H=>JR) (fun C fp s H=>Yd Za)
    (Zq (i:=2) scNb.nd rfl (Or.inl rfl)) rfl)
   (Zb (ZL PassesOwn.never rfl (Yu (Zl Zo (pv 0) Ze (fun _ _=>rfl))) (YB rfl (Zy (Zq (i:=3) scNb.nd rfl (Or.inl rfl)) (Zy (Zq (i:=4) scNb.nd rfl (Or.inl rfl)) Ya)))
    (Zb (ZH (YT PySem.F.plainAttrs_list PySem.F.slot_list_append PySem.F.type_list_append ZX (Zl Z6 (pv 2) (pv 3) (fun _ _=>rfl)) (Zc (pv 4) Za)))
    (Zg (ZH (YT PySem.F.plainAttrs_list PySem.F.slot_list_append PySem.F.type_list_append ZX (Zl Z6 (pv 2) (pv 4) (fun _ _=>rfl)) (Zc (pv 3) Za))))))
   (Zg (Zs (pv 2)))),?_⟩
  have h60:=N.n60
  have h200:=N.l200
  have hlen:=N.len
  refine⟨_,rfl,p,_,_,_,rfl,rfl,SqT.of N.e1,rfl,n,rfl,by omega,fun i ys σ m=>∃g,ys=g.map V.ref/\g.length=i/\g.Nodup/\Same H m/\(∀b∈g,H b=none/\m b=some (.lst []))/\∃v0,σ=[v0],
   ⟨[],rfl,rfl,List.nodup_nil,Same.refl H,(fun b hb=>by cases hb),none,rfl⟩,fun i ys σ m hi⟨g,e1,e2,_⟩=>by subst e1;rw[List.length_map];omega,fun i ys σ m hi xq1=>?_,fun ys σ m xq1 R H2 s2 hR=>?_⟩
  ·obtain⟨g,e1,e2,nd,sH,l,v0,e3⟩:=xq1
   subst e1 e3
   dsimp only[JY,tTrue]
   refine YA ⟨(Nat.zero_le _),fun d hd=>⟨g++[d],by rw[List.map_append];rfl,by rw[List.length_append,e2];rfl,?_,Same.trans sH (Zi hd),fun b hb=>?_,_,rfl⟩⟩
   ·grind
   ·rcases List.mem_append.mp hb with z|z
    ·exact⟨(l b z).1,by rw[Zf (Zk (l b z).2 hd)];exact(l b z).2⟩
    ·rw[List.mem_singleton.mp z]
     refine⟨?_,Zd⟩
     cases y:H d with
     |none=>rfl
     |some o=>rw[sH d o y]at hd;cases hd
  ·obtain⟨g,e1,e2,nd,sH,l,_⟩:=xq1
   subst e1
   have sH2:=Same.trans sH s2
   have hRn:R ∉ g:=fun z=>by
    have z2:=s2 _ _ (l R z).2
    rw[hR]at z2
    cases g with
    |nil=>cases z
    |cons b bs=>cases z2
   have fr:=fun b hb=>(l b hb).1
   refine⟨_,rfl,p,_,_,_,rfl,rfl,SqT.of (sH2 _ _ N.e1),rfl,qa,rfl,⟨_,SqT.of (sH2 _ _ N.e2)⟩,Yt (K:=K) (a:=qa) (xs:=ts) (fun i σ m=>(∃v1 v3 v4,σ=[some (.ref p),v1,some (.ref R),v3,v4])/\RS H m R g (adjF j i)) ⟨⟨_,_,_,rfl⟩,(show RS H H2 R g (adjF j 0)from⟨hR,fun i b e=>by rw[s2 _ _ (l b (List.mem_of_getElem? e)).2];rfl,sH2⟩)⟩ (fun i σ m _ z=>SqT.of (z.2.same _ _ N.e2)) (fun i x σ m hx xq1=>?_) (fun σ m xq1=>?_)⟩
   ·obtain⟨⟨v1,v3,v4,e⟩,st⟩:=xq1
    subst e
    have hi':=(List.getElem?_eq_some_iff.mp hx).1
    obtain⟨b,rfl,hbt⟩:=N.tie i x hx
    obtain⟨a1,b1,ab⟩:=N.ok _ (getD_mem (show i<j.length by omega))
    have l1:(j.getD i (0,0)).1<g.length:=by omega
    have l2:(j.getD i (0,0)).2<g.length:=by omega
    have hz:∀(G:Nat->List Nat)(k:Nat),(G k).length<=2*i+1->(nl (G k)).length<sizeLine:=fun G k hG=>by rw[nl_len,sizeLine_eq];omega
    refine⟨b,_,rfl,SqT.of (st.same _ _ hbt),rfl,_,_,rfl,_,_,rfl,rfl,?_⟩
    have r1:=st.row _ _ (List.getElem?_eq_getElem l1)
    have st2:=st.write (v:=(j.getD i (0,0)).2) nd hRn fr (List.getElem?_eq_getElem l1)
    have r2:=st2.row _ _ (List.getElem?_eq_getElem l2)
    refine⟨_,rfl,_,rfl,R,_,_,.ref g[(j.getD i (0,0)).1],rfl,rfl,SqL.of st.top,Z3 (by rw[List.getElem?_map,List.getElem?_eq_getElem l1];rfl),.inl ⟨rfl,_,SqL.of r1⟩,_,rfl,g[(j.getD i (0,0)).1],_,_,rfl,rfl,r1,hz _ _ (by have:=Zbt j (j.getD i (0,0)).1 i;omega),?_⟩
    refine⟨_,rfl,_,rfl,R,_,_,.ref g[(j.getD i (0,0)).2],rfl,rfl,SqL.of st2.top,Z3 (by rw[List.getElem?_map,List.getElem?_eq_getElem l2];rfl),.inl ⟨rfl,_,SqL.of r2⟩,_,rfl,g[(j.getD i (0,0)).2],_,_,rfl,rfl,r2,hz _ _ ?_,⟨_,_,_,rfl⟩,(st2.write (v:=(j.getD i (0,0)).1) nd hRn fr (List.getElem?_eq_getElem l2))⟩
    have:=Zbt j (j.getD i (0,0)).2 i
    unfold grow
    rw[if_neg (fun z=>ab z.symm)]
    omega
   ·obtain⟨⟨v1,v3,v4,e⟩,st⟩:=xq1
    subst e
    rw[hlen]at st
    exact⟨_,rfl,q m R g st.same ⟨st.top,e2,fun i b e=>st.row i b e⟩⟩
end
section
variable{adjL:Nat->List Nat}{V0:Nat->Prop}{row0 row:Nat->Option Int}{n root:Nat}{above:Nat->Option Nat}{wt:List Nat}{pl:Nat}{dep:Nat->Nat}
theorem BF.dep_lt(B:BF adjL V0 row0 n root row above wt pl dep){x}(hx:x∈wt):dep x<n:=by
 have h:=J1 n ((List.range (dep x+1)).map (it (parOf above) x)) (by
  rw[List.Nodup,List.pairwise_map]
  refine List.Pairwise.imp_of_mem (fun{i j} a c h=>?_) (List.nodup_range (n:=dep x+1))
  rw[List.mem_range]at a c
  intro z
  have _:=(B.up hx i (by omega)).2
  have _:=(B.up hx j (by omega)).2
  grind) (fun y b=>by
  obtain⟨i,a,rfl⟩:=List.mem_map.mp b
  rw[List.mem_range]at a
  exact B.lt _ (B.up hx i (by omega)).1)
 grind
end
def leg(above:Nat->Option Nat)(x m:Nat):List Nat:=(List.range m).map (it (parOf above) x)
theorem YV(above)(x m):leg above x (m+1)=leg above x m++[it (parOf above) x m]:=by
 unfold leg
 rw[List.range_succ,List.map_append]
 rfl
theorem nl_app(l)(x):nl (l++[x])=nl l++[.int x]:=by
 unfold nl
 grind
theorem Zcm(above)(x m):(leg above x m).length=m:=by unfold leg;grind
theorem Zgi(xs)(v):Y5 (xs++[v]) none (some (-1))=xs:=by
 have e:HT.sIx (xs++[v]).length (xs++[v]).length (some (-1))=xs.length:=by
  rw[List.length_append,List.length_singleton]
  unfold HT.sIx
  grind
 unfold Y5
 rw[e,HT.sIx_none,List.drop_zero,Nat.sub_zero,List.take_left]
section
variable{P:Program}{w:World}{K:PySem.W.Frag}{mg:Str->Option Value}{base:Heap}{Pt c:Addr}
abbrev sCl:Stmt:=top 48
abbrev nCl:List Str:=["above","one","other","up","down"]
inductive spCl(vs:List V)(H:Hp)(Q:VK)(_z3:XK):Prop
 |mk (Aa:Addr) (adjL:Nat->List Nat) (V0:Nat->Prop) (row0 row:Nat->Option Int) (n root:Nat) (above:Nat->Option Nat) (wt:List Nat) (pl:Nat) (dep:Nat->Nat) (a b:Nat) (_:vs=[.ref Aa,.int a,.int b]) (_:H Aa=some (.lst (ol (up1 above) n))) (_:BF adjL V0 row0 n root row above wt pl dep) (_:a∈wt) (_:b∈wt) (_:dep b=dep a) (_:n<=60) (_:∀(H')(t)(m),Same H H'->H' t=some (.tup (nl (ring (parOf above) a b m)))->m<=dep a->it (parOf above) a m=it (parOf above) b m->(∀i,i<m->it (parOf above) a i≠it (parOf above) b i)->Q (.ref t) H')
theorem scCl:Zr nCl ["above","one","other"] (Zh sCl):=⟨rfl,rfl,rfl,by decide+kernel,rfl,by decide+kernel,by decide+kernel⟩
theorem ok_cl{f}{fd}(F:Fun K "closed" "closed" sCl f fd)(T:Bi mg)(hrv:mg "reversed"=none):FnOk P w K mg base CX0 1 f fd ["above","one","other"] spCl:=by
 refine F.ok scCl (fun vs H Q E h=>?_) (fun cdv A outer s H vs Q E hr h=>?_)
 ·obtain⟨Aa,adjL,V0,row0,row,n,root,c,wt,pl,dep,a,b,rfl,_⟩:=h
  rfl
 ·obtain⟨Aa,adjL,V0,row0,row,n,root,c,wt,pl,dep,a,b,rfl,hA,B,ha,hb,hd,h60,q⟩:=h
  refine⟨_,Zb (Zj (i:=3) scCl.nd rfl (Or.inl rfl) (Yd (Zc (pv 1) Za)))
   (Zb (Zj (i:=4) scCl.nd rfl (Or.inl rfl) (Yd (Zc (pv 2) Za)))
   (Zb (Jp PassesOwn.never (Zm ZaZ (Zl Z6 (pv 3) (ZaS JC Ze) (fun _ _=>rfl)) (Zl Z6 (pv 4) (ZaS JC Ze) (fun _ _=>rfl)) (Zv _))
    (Zb (ZH (YT PySem.F.plainAttrs_list PySem.F.slot_list_append PySem.F.type_list_append ZX (pv 3) (Zc (Zl Z6 (pv 0) (Zl Z6 (pv 3) (ZaS JC Ze) (fun _ _=>rfl)) (fun _ _=>rfl)) Za)))
    (Zg (ZH (YT PySem.F.plainAttrs_list PySem.F.slot_list_append PySem.F.type_list_append ZX (pv 4) (Zc (Zl Z6 (pv 0) (Zl Z6 (pv 4) (ZaS JC Ze) (fun _ _=>rfl)) (fun _ _=>rfl)) Za))))))
   (Zg (Zs (Z1 Z7 rfl T.tuple Yl (Zc (Zp JX (pv 3) (Zdw rfl (JT Zce (pv 4) Za7 (Za6 (ZaS JC Ze))) rfl T.list rfl hrv rfl)) Za)))))),?_⟩
  have hdn:=B.dep_lt ha
  refine⟨_,rfl,(by show 1<=sizeLine;decide),fun U hU=>⟨_,rfl,(by show 1<=sizeLine;decide),fun D hD=>?_⟩⟩
  have hUD:U≠D:=fun z=>by subst z;rw[Zd]at hD;cases hD
  have hD0:H D=none:=by
   cases z:H D with
   |none=>rfl
   |some o=>rw[Zi hU D o z]at hD;cases hD
  refine⟨fun μ σ H'=>∃m,μ=dep a-m/\m<=dep a/\(∀i,i<m->it (parOf c) a i≠it (parOf c) b i)/\σ=[some (.ref Aa),some (.int (a:Int)),some (.int (b:Int)),some (.ref U),some (.ref D)]/\H' U=some (.lst (nl (leg c a (m+1))))/\H' D=some (.lst (nl (leg c b (m+1))))/\Same H H',
   ⟨_,0,rfl,Nat.zero_le _,fun i h=>absurd h (Nat.not_lt_zero _),rfl,by rw[Zf hUD,Zd];rfl,by rw[Zd];rfl,(show Same H (upd (upd H U (.lst [.int (a:Int)])) D (.lst [.int (b:Int)]))from Same.trans (Zi hU) (Zi hD))⟩,?_⟩
  rintro μ σ H' ⟨m,rfl,hm,hf,rfl,hU',hD',sH⟩
  rw[YV,nl_app]at hU' hD'
  have lU:=Zbs (nl (leg c a m)) (.int ((it (parOf c) a m:Nat):Int))
  have lD:=Zbs (nl (leg c b m)) (.int ((it (parOf c) b m:Nat):Int))
  refine⟨_,rfl,_,rfl,U,_,_,_,rfl,rfl,SqL.of hU',lU,_,rfl,_,rfl,D,_,_,_,rfl,rfl,SqL.of hD',lD,rfl,_,rfl,ZF (fun hne=>?_) (fun hne=>?_)⟩
  ·have hne':it (parOf c) a m≠it (parOf c) b m:=fun z=>by
    rw[z]at hne
    simp at hne
   have hlt:m<dep a:=by
    rcases Nat.lt_or_eq_of_le hm with h|h
    ·exact h
    ·exact absurd (by rw[h,B.upEnd ha,<-hd,B.upEnd hb]) hne'
   refine⟨fun σ' H'=>∃m',m'<dep a-m/\∃m,m'=dep a-m/\m<=dep a/\(∀i,i<m->it (parOf c) a i≠it (parOf c) b i)/\σ'=[some (.ref Aa),some (.int (a:Int)),some (.int (b:Int)),some (.ref U),some (.ref D)]/\H' U=some (.lst (nl (leg c a (m+1))))/\H' D=some (.lst (nl (leg c b (m+1))))/\Same H H',fun _ _ h=>h,?_⟩
   have ab:∀x,x∈wt->m<dep x->atI (ol (up1 c) n) ((it (parOf c) x m:Nat):Int)=some (.int ((it (parOf c) x (m+1):Nat):Int)):=fun x hx hl=>by
    refine Z3 ?_
    rw[JG _ (B.lt _ (B.up hx m (by omega)).1)]
    unfold ov up1
    rw[(B.upTie hx m hl).1]
    rfl
   have szm:∀x,(nl (leg c x m)++[V.int ((it (parOf c) x m:Nat):Int)]).length<sizeLine:=fun x=>by
    rw[List.length_append,nl_len,Zcm,List.length_singleton,sizeLine_eq]
    omega
   refine⟨_,rfl,.inl ⟨rfl,_,SqL.of hU'⟩,_,rfl,_,rfl,_,rfl,U,_,_,_,rfl,rfl,SqL.of hU',lU,Aa,_,_,_,rfl,rfl,SqL.of (sH _ _ hA),ab a ha hlt,U,_,_,rfl,rfl,hU',szm a,?_⟩
   have hD2:(upd H' U (.lst (nl (leg c a m)++[.int ((it (parOf c) a m:Nat):Int)]++[.int ((it (parOf c) a (m+1):Nat):Int)]))) D=some (.lst (nl (leg c b m)++[.int ((it (parOf c) b m:Nat):Int)])):=by rw[Zf (Ne.symm hUD)];exact hD'
   refine⟨_,rfl,.inl ⟨rfl,_,SqL.of hD2⟩,_,rfl,_,rfl,_,rfl,D,_,_,_,rfl,rfl,SqL.of hD2,lD,Aa,_,_,_,rfl,rfl,SqL.of (show(upd H' U (.lst (nl (leg c a m)++[.int ((it (parOf c) a m:Nat):Int)]++[.int ((it (parOf c) a (m+1):Nat):Int)]))) Aa=some (.lst (ol (up1 c) n)) by rw[Zf (show Aa≠U from fun z=>by rw[<-z,hA]at hU;cases hU)];exact sH _ _ hA),ab b hb (by omega),D,_,_,rfl,rfl,hD2,szm b,dep a-(m+1),by omega,m+1,rfl,hlt,fun i hi=>?_,rfl,?_,?_,fun b' o' e'=>?_⟩
   ·by_cases e:i=m
    ·rw[e];exact hne'
    ·exact hf i (by omega)
   ·rw[Zf hUD,Zd,YV,nl_app,YV,nl_app]
   ·rw[Zd,YV,nl_app,YV,nl_app]
   ·rw[Zf (Zk e' hD0),Zf (Zk e' hU)]
    exact sH _ _ e'
  ·have heq:it (parOf c) a m=it (parOf c) b m:=by
    by_cases e:it (parOf c) a m=it (parOf c) b m
    ·exact e
    ·refine absurd ?_ hne
     have:¬(V.int ((it (parOf c) a m:Nat):Int)=V.int ((it (parOf c) b m:Nat):Int)):=fun z=>e (by injection z with z;omega)
     rw[decide_eq_false this]
     rfl
   refine⟨_,rfl,_,rfl,_,rfl,_,rfl,D,_,rfl,SqL.of hD',fun l1 h1=>?_⟩
   rw[Zgi]
   refine⟨l1,_,rfl,SqL.of Zd,fun l2 H2 s2 h2=>⟨U,l2,_,_,rfl,rfl,(s2 _ _ (Zi h1 (o:= .lst (nl (leg c b m))) _ _ hU')),h2,(by rw[List.length_append,List.length_reverse,nl_len,nl_len,Zcm,Zcm,List.length_singleton];omega),fun l3 H3 s3 h3=>⟨l3,_,rfl,.inl h3,fun t H4 s4 ht=>(q H4 t m (Same.trans (Same.trans (Same.trans (Same.trans sH (Zi h1)) s2) s3) s4) ?_ hm heq hf)⟩⟩⟩
   rw[ht]
   have e:nl (ring (parOf c) a b m)=nl (leg c a m)++[.int ((it (parOf c) a m:Nat):Int)]++(nl (leg c b m)).reverse:=by
    unfold ring
    rw[<-nl_app,<-YV]
    unfold nl leg
    rw[List.map_append,List.map_reverse]
   rw[e]
end
inductive Ans where
 |ring (above:Nat->Option Nat) (a b:Nat)
 |sides (row:Nat->Option Int)
def goS(adjL:Nat->List Nat)(n:Nat):Nat->Nat->(Nat->Option Int)->(Nat->Option Nat)->Ans
 |0,_,row,_=> .sides row
 |f+1,r,row,ab=>if row r=none then(match(goW adjL n 0 (put row r (some 0)) ab [r]).clash with
   |some (a,b)=> .ring (goW adjL n 0 (put row r (some 0)) ab [r]).above a b
   |none=>goS adjL n f (r+1) (goW adjL n 0 (put row r (some 0)) ab [r]).row (goW adjL n 0 (put row r (some 0)) ab [r]).above)else goS adjL n f (r+1) row ab
theorem ZfV(adjL)(n f r)(row)(ab)(h:row r≠none):goS adjL n (f+1) r row ab=goS adjL n f (r+1) row ab:=by
 show(if row r=none then _ else _)=_
 rw[if_neg h]
theorem ZfX(adjL)(n f r)(row row')(ab ab')(h:row r=none)(hW:goW adjL n 0 (put row r (some 0)) ab [r]=⟨none,row',ab'⟩):goS adjL n (f+1) r row ab=goS adjL n f (r+1) row' ab':=by
 show(if row r=none then _ else _)=_
 rw[if_pos h,hW]
theorem ZfW(adjL)(n f r a b)(row row')(ab ab')(h:row r=none)(hW:goW adjL n 0 (put row r (some 0)) ab [r]=⟨some (a,b),row',ab'⟩):goS adjL n (f+1) r row ab= .ring ab' a b:=by
 show(if row r=none then _ else _)=_
 rw[if_pos h,hW]
abbrev no1:Nat->Option Int:=fun _=>none
abbrev no2:Nat->Option Nat:=fun _=>none
theorem Zc8(N):(List.replicate N ([.non])).flatten=ol no1 N:=by
 induction N with
 |zero=>rfl
 |_ n a=>
  rw[List.replicate_succ',List.flatten_append,a]
  unfold ol
  rw[List.range_succ,List.map_append]
  rfl
section
variable{P:Program}{w:World}{K:PySem.W.Frag}{mg:Str->Option Value}{base:Heap}{Pt c:Addr}
abbrev sSd:Stmt:=top 49
abbrev nSd:List Str:=["net","tied","row","above","root","clash"]
inductive spSd(vs:List V)(H:Hp)(Q:VK)(_z3:XK):Prop
 |mk (p n qa ts es:_) (_:vs=[.ref p]) (_:NetZ H p n qa ts es) (_:(∀H' t r row',Same H H'->H' t=some (.tup [.str "sides",.ref r])->H' r=some (.tup (ol row' n))->(∃V rt,Out (adjF es es.length) V row' rt n)->goS (adjF es es.length) n n 0 no1 no2= .sides row'->Q (.ref t) H')) (_:∀H' t r above a b m,Same H H'->H' t=some (.tup [.str "ring",.ref r])->H' r=some (.tup (nl (ring (parOf above) a b m)))->goS (adjF es es.length) n n 0 no1 no2= .ring above a b->it (parOf above) a m=it (parOf above) b m->(∀i,i<m->it (parOf above) a i≠it (parOf above) b i)->(1<=m/\(∀x∈ring (parOf above) a b m,x<n)/\(ring (parOf above) a b m).Nodup/\∀k,k<2*m+1->(ring (parOf above) a b m).getD k 0∈adjF es es.length ((ring (parOf above) a b m).getD (if k=0 then 2*m else k-1) 0))->Q (.ref t) H')
theorem scSd:Zr nSd ["net"] (Zh sSd):=⟨rfl,rfl,rfl,by decide+kernel,rfl,by decide+kernel,by decide+kernel⟩
theorem Zjm{H}{p q}{n}{ts}{es}(N:NetZ H p n q ts es)(x y)(h:y∈adjF es es.length x):x≠y:=by
 rw[mem_adjF]at h
 obtain⟨k,a,_⟩:=h
 have _:=(N.ok _ (getD_mem a)).2.2
 grind
theorem ok_sd{f}{fd}(F:Fun K "sides" "sides" sSd f fd)(T:Bi mg)(FN:FnE P w K mg base "neighbours" ["net"] 1 spNb)(FS:FnE P w K mg base "spread" ["tied","row","above","root"] 1 spSpr)(FC:FnE P w K mg base "closed" ["above","one","other"] 1 spCl):FnOk P w K mg base CX0 2 f fd ["net"] spSd:=by
 refine F.ok scSd (fun vs H Q E h=>?_) (fun cdv A outer s H vs Q E hr h=>?_)
 ·obtain⟨p,n,q,ts,es,rfl,_⟩:=h
  rfl
 ·obtain⟨p,n,qa,ts,es,rfl,N,qS,qR⟩:=h
  refine⟨_,Zb (Zj (i:=1) scSd.nd rfl (Or.inl rfl) (Zw FN hr (Zc (pv 0) Za)))
   (Zb (Zj (i:=2) scSd.nd rfl (Or.inl rfl) (Zp ZaY (Yd (Zc ZM Za)) (Zl Zo (pv 0) Ze (fun _ _=>rfl))))
   (Zb (Zj (i:=3) scSd.nd rfl (Or.inl rfl) (Zp ZaY (Yd (Zc ZM Za)) (Zl Zo (pv 0) Ze (fun _ _=>rfl))))
   (Zb (ZL PassesOwn.never rfl (Yi rfl T.range (Zc (Zl Zo (pv 0) Ze (fun _ _=>rfl)) Za)) (Zq (i:=4) scSd.nd rfl (Or.inl rfl))
    (Zg (Z0 (Zm Zcj (Zl Z6 (pv 2) (pv 4) (fun _ _=>rfl)) ZM (Zv _))
     (Zb (Yq Ze (Jd (pv 2) (pv 4) ZU))
     (Zb (Zj (i:=5) scSd.nd rfl (Or.inl rfl) (Zw FS hr (Zc (pv 1) (Zc (pv 2) (Zc (pv 3) (Zc (pv 4) Za))))))
     (Zg (Z0 (Zm Y9 (pv 5) ZM (Zv _)) (Zg (Zs (Z5 (Zc ZT (Zc (Zw FC hr (Zc (pv 3) (Zc (Zl Zo (pv 5) Ze (fun _ _=>rfl)) (Zc (Zl Zo (pv 5) Ze (fun _ _=>rfl)) Za)))) Za))))) Zt))))
     Zt)))
   (Zg (Zs (Z5 (Zc ZT (Zc (Z1 Z7 rfl T.tuple Yl (Zc (pv 2) Za)) Za)))))))),?_⟩
  have h60:=N.n60
  refine⟨_,rfl,p,n,qa,ts,es,rfl,N,fun H1 Ta tl s1 TA=>?_⟩
  have szn:1*((n:Int)).toNat<=sizeLine:=by rw[sizeLine_eq,Int.toNat_natCast];omega
  refine⟨(by decide),fun b1 hb1=>⟨_,rfl,p,_,_,_,rfl,rfl,SqT.of (Zi hb1 _ _ (s1 _ _ N.e1)),rfl,b1,(n:Int),_,rfl,rfl,Zd,(by omega),(by omega),szn,fun Ra hRa=>?_⟩⟩
  rw[Int.toNat_natCast,Zc8]
  refine⟨(by decide),fun b2 hb2=>?_⟩
  have t2:=Same.trans (Same.trans (Zi (o:= .lst [.non]) hb1) (Zi (o:= .lst (ol no1 n)) hRa)) (Zi (o:= .lst [.non]) hb2)
  refine⟨_,rfl,p,_,_,_,rfl,rfl,SqT.of (t2 _ _ (s1 _ _ N.e1)),rfl,b2,(n:Int),_,rfl,rfl,Zd,(by omega),(by omega),szn,fun Aa hAa=>?_⟩
  rw[Int.toNat_natCast,Zc8]
  have t3:=Same.trans t2 (Zi (o:= .lst (ol no1 n)) hAa)
  have fr:∀{H':Hp}{d:Addr},Same H1 H'->H' d=none->H1 d=none:=fun{H' d} s' h=>by
   cases z:H1 d with
   |none=>rfl
   |some o=>rw[s' d o z]at h;cases h
  have hRa1:=fr (Zi hb1) hRa
  have hAa1:=fr t2 hAa
  have hRA:Ra≠Aa:=fun z=>by
   subst z
   rw[Zi hb2 _ _ Zd]at hAa
   cases hAa
  have hne:∀a∈Ta::tl,a≠Ra/\a≠Aa:=fun a ha=>by
   have hs:∃o,H1 a=some o:=by
    rcases List.mem_cons.mp ha with z|z
    ·exact⟨_,by rw[z];exact TA.top⟩
    ·obtain⟨i,hi,e⟩:=List.getElem_of_mem z
     exact⟨_,TA.row i a (by rw[List.getElem?_eq_getElem hi,e])⟩
   obtain⟨o,ho⟩:=hs
   exact⟨Zk ho hRa1,Zk ho hAa1⟩
  refine⟨_,rfl,p,_,_,_,rfl,rfl,SqT.of (t3 _ _ (s1 _ _ N.e1)),rfl,(n:Int),rfl,by omega,by omega,Yz (lo:=0) (n:=((n:Int)).toNat) (fun r σ H'=>∃g c V rt v4 v5,σ=[some (.ref p),some (.ref Ta),some (.ref Ra),some (.ref Aa),v4,v5]/\H' Ra=some (.lst (ol g n))/\H' Aa=some (.lst (ol (up1 c) n))/\Same H1 H'/\Out (adjF es es.length) V g rt r/\goS (adjF es es.length) n (n-r) r g c=goS (adjF es es.length) n n 0 no1 no2)
   ⟨no1,no2,_,_,none,none,rfl,(show(upd (upd (upd (upd H1 b1 (.lst [.non])) Ra (.lst (ol no1 n))) b2 (.lst [.non])) Aa (.lst (ol no1 n))) Ra=some (.lst (ol no1 n))from Same.trans (Zi hb2) (Zi hAa) _ _ Zd),Zd,t3,Out.start,rfl⟩ (fun r σ H' hr' xq1=>?_) (fun σ H' xq1=>?_)⟩
  ·obtain⟨g,c,V,rt,v4,v5,e,hR,hA,sH,O,hG⟩:=xq1
   subst e
   rw[Int.toNat_natCast]at hr'
   rw[(show goS (adjF es es.length) n (n-r) r g c=goS (adjF es es.length) n (n-(r+1)+1) r g c by rw[show n-(r+1)+1=n-r by omega])]at hG
   refine⟨_,rfl,_,rfl,Ra,_,_,ov g r,rfl,rfl,SqL.of hR,(by rw[Int.zero_add];exact Z3 (JG _ hr')),rfl,_,rfl,ZF (fun hz=>?_) (fun hz=>?_)⟩
   ·have hz':g r=none:=ov_none.mp (of_decide_eq_true hz)
    refine⟨_,rfl,_,rfl,Ra,_,r,rfl,(by rw[Int.zero_add]),hR,by rw[Zap];exact hr',?_⟩
    rw[Zdy]
    have sw:Same H1 (upd H' Ra (.lst (ol (put g r (some 0)) n))):=fun b o e=>by rw[Zf (Zk e hRa1)];exact sH _ _ e
    refine⟨_,rfl,_,rfl,_,rfl,_,rfl,Ta,Ra,Aa,tl,adjF es es.length,V,g,c,n,r,(by rw[Int.zero_add];rfl),(show∀{H'},Same H1 H'->Zcv H' Ta tl (adjF es es.length) n from fun{H'} s'=>⟨s' _ _ TA.top,TA.len,fun i a e=>s' _ _ (TA.row i a e)⟩) sw,Zd,(by rw[Zf (Ne.symm hRA)];exact hA),hRA,hne,h60,BF.start (Zgv es es.length) (Zgw N) O.shut hz' hr',fun H2 row' above' wt pl dep sm hR2 hA2 B=>⟨fun hl hW=>?_,fun t a b hW ht ha hb hab hd=>?_⟩⟩
    ·have s2:Same H1 H2:=fun b o e=>sm _ _ (sw _ _ e) (Zk e hRa1) (Zk e hAa1)
     rw[ZfX _ _ _ _ _ _ _ _ hz' hW]at hG
     obtain⟨rt',O'⟩:=O.walk B hl
     exact⟨_,rfl,rfl,_,rfl,ZD ⟨_,_,_,rt',_,_,rfl,hR2,hA2,s2,O',hG⟩⟩
    ·have s2:Same H1 H2:=fun b o e=>sm _ _ (sw _ _ e) (Zk e hRa1) (Zk e hAa1)
     rw[ZfW _ _ _ _ _ _ _ _ _ _ hz' hW]at hG
     exact⟨_,rfl,rfl,_,rfl,YA ⟨_,rfl,_,rfl,t,_,_,_,rfl,rfl,SqT.of ht,rfl,_,rfl,t,_,_,_,rfl,rfl,SqT.of ht,rfl,Aa,adjF es es.length,V,g,row',n,r,above',wt,pl,dep,a,b,rfl,hA2,B,ha,hb,hd,h60,fun H3 t' m s3 ht' hm meet first=>⟨rfl,fun t2 H4 s4 ht2=>(qR H4 t2 t' above' a b m (Same.trans (Same.trans (Same.trans s1 s2) s3) s4) ht2 (s4 _ _ ht') hG.symm meet first (B.ring_ok ha hb hd (Zjm N _ _ hab) hab hm meet first))⟩⟩⟩
   ·have hz':g r≠none:=fun z=>hz (decide_eq_true (ov_none.mpr z))
    rw[ZfV _ _ _ _ _ _ hz']at hG
    exact⟨g,c,V,rt,_,_,rfl,hR,hA,sH,O.skip hz',hG⟩
  ·obtain⟨g,c,V,rt,v4,v5,e,hR,hA,sH,O,hG⟩:=xq1
   subst e
   rw[Int.toNat_natCast]at O hG
   rw[Nat.sub_self]at hG
   exact⟨_,rfl,Ra,_,rfl,.inl hR,fun r H2 s2 hr2=>⟨rfl,fun t H3 s3 ht=>(qS H3 t r g (Same.trans (Same.trans (Same.trans s1 sH) s2) s3) ht (s3 _ _ hr2) ⟨V,rt,O⟩ hG.symm)⟩⟩
end
end Sd
namespace My
open PySem L2
theorem Zh7{es}{col:Nat->Bool}(hc:∀e∈es,col e.1≠col e.2) {x y} (h:y∈Sd.adjF es es.length x):col y= !col x:=by
 rw[Sd.mem_adjF]at h
 obtain⟨k,c,b⟩:=h
 have a:=hc _ (getD_mem c)
 rcases b with z|z
 ·rw[z.1,z.2];revert a;cases col _<;>cases col _<;>simp
 ·rw[z.1,z.2];revert a;cases col _<;>cases col _<;>simp
theorem Zdo:¬(V.str "sides"=V.str "ring"):=by decide+kernel
structure RmIn(H:Hp)(p r:Addr)(n:Nat)(q:Addr)(ts:List V)(es:List (Nat×Nat))(tl:List (Option Nat))(k m:Nat):Prop where
 N:NetZ H p n q ts es
 hR:H r=some (.tup (tv tl))
 len:tl.length=es.length
 hk:k<es.length
 hb:tl[k]?=some none
 hC:CleanTo es tl es.length
 hm:m<=1000
 h64:es.length<64
 hT:Two es
 hM:∃M,(∀x,x<n->dg es es.length x<=M)/\M<=m
theorem RmIn.same{H H':Hp}{p r:Addr}{n:Nat}{q:Addr}{ts:List V}{es:List _}{tl:List _}{k m:Nat}(h:RmIn H p r n q ts es tl k m)(s:Same H H'):RmIn H' p r n q ts es tl k m:=
 ⟨h.N.same s,s _ _ h.hR,h.len,h.hk,h.hb,h.hC,h.hm,h.h64,h.hT,h.hM⟩
section
variable{P:Program}{w:World}{K:PySem.W.Frag}{mg:Str->Option Value}{base:Heap}{cM:Addr}
abbrev sNd:Stmt:=inClass (top 53) 0
abbrev sAk:Stmt:=inClass (top 53) 1
abbrev sMr:Stmt:=inClass (top 53) 2
abbrev Ziq:Stmt:=inClass (top 51) 2
inductive spNd(vs:List V)(H:Hp)(Q:VK)(_z3:XK):Prop
 |mk (p m:_) (_:vs=[.ref p,.int m]) (_:0<=m) (_:Q (.int m) H)
theorem Zl6:Zr ["self","most"] ["self","most"] (Zh sNd):=⟨rfl,rfl,rfl,by decide+kernel,rfl,by decide+kernel,by decide+kernel⟩
theorem Zke{f}{fd}(F:Fun K "needed" "TwoSided.needed" sNd f fd):FnOk P w K mg base CX0 1 f fd ["self","most"] spNd:=by
 refine F.ok Zl6 (fun a H Q E h=>?_) (fun _ A _ s H a Q E _ h=>?_)
 ·obtain⟨p,m,rfl,_⟩:=h
  rfl
 ·obtain⟨p,m,rfl,_,q⟩:=h
  exact⟨_,Zg (Zs (pv 1)),_,rfl,q⟩
inductive spAk(vs:List V)(H:Hp)(Q:VK)(_z3:XK):Prop
 |mk (s p n q ts es:_) (_:vs=[.ref s,.ref p]) (_:NetZ H p n q ts es) (_:Two es) (_:∀H',Same H H'->Q .non H')
theorem scAk:Zr ["self","net","told"] ["self","net"] (Zh sAk):=⟨rfl,rfl,rfl,by decide+kernel,rfl,by decide+kernel,by decide+kernel⟩
theorem Zkz{f}{fd}(F:Fun K "asked" "TwoSided.asked" sAk f fd)(FS:FnE P w K mg base "sides" ["net"] 2 Sd.spSd):FnOk P w K mg base CX0 3 f fd ["self","net"] spAk:=by
 refine F.ok scAk (fun v H Q E h=>?_) (fun _ A _ s H v Q E o h=>?_)
 ·obtain⟨s,p,n,q,d,e,rfl,_⟩:=h
  rfl
 ·obtain⟨_,p,n,B,d,e,rfl,N,⟨col,u⟩,q⟩:=h
  refine⟨_,Zb (Zj (i:=2) scAk.nd rfl (Or.inl rfl) (Zw FS o (Zc (pv 1) Za))) (Zb (Z0 (Zm ZI (Zl Zo (pv 2) Ze (fun _ _=>rfl)) ZT (Zv _)) Z8 Zt) (Zg (Zs ZM))),_,rfl,p,n,B,d,e,rfl,⟨N.e1,N.e2,N.len,N.tie,N.l200,N.n60,N.ok⟩,fun g t r _ l j _ _ _=>?_,fun g t r _ a b m l j _ _ _ _ y=>?_⟩
  ·exact⟨_,rfl,t,_,_,_,rfl,rfl,SqT.of j,rfl,rfl,_,rfl,ZF (fun z=>absurd (of_decide_eq_true z) Zdo) (fun _=>(q g l))⟩
  ·exact(ZfB (col:=col) fun k x=>Zh7 u (y.2.2.2 k x)).elim
abbrev nMr:List Str:=["self","net","tints","tie","many"]
abbrev ZlS:List Str:=["self","net","tints","tie","many","ends","one","other"]
inductive spMr(vs:List V)(H:Hp)(Q:VK)(_z3:XK):Prop
 |mk (s p r:Addr) (n:Nat) (q:Addr) (ts:List V) (es:List (Nat×Nat)) (tl:List (Option Nat)) (k m:Nat) (_:vs=[.ref s,.ref p,.ref r,.int k,.int m]) (_:RmIn H p r n q ts es tl k m) (_:¬0<(both es tl (es.getD k (0,0)).1 (es.getD k (0,0)).2 m).length) (_:∀H' l,Same H H'->H l=none->ShSt H' l (put2 es tl k m)->Q (.ref l) H')
theorem scMr:Zr ZlS nMr (Zh sMr):=⟨rfl,rfl,rfl,by decide+kernel,rfl,by decide+kernel,by decide+kernel⟩
theorem Zkf{f}{fd}(F:Fun K "made_room" "TwoSided.made_room" sMr f fd)(FFt:FnE P w K mg base "free_tints" ["net","tints","point","many"] 2 spFt):FnOk P w K mg base CX0 3 f fd nMr spMr:=by
 refine F.ok scMr (fun vs H Q E h=>?_) (fun cdv A outer s H vs Q E hr h=>?_)
 ·obtain⟨s,p,r,n,q,ts,a,c,k,m,rfl,_⟩:=h
  rfl
 ·obtain⟨sf,p,r,n,u,ts,a,c,k,m,rfl,I,h0,q⟩:=h
  refine⟨_,Zb (Zj (i:=5) scMr.nd rfl (Or.inl rfl) (Zl Zo (Zl Zo (pv 1) Ze (fun _ _=>rfl)) (pv 3) (fun _ _=>rfl)))
   (Zb (Zj (i:=6) scMr.nd rfl (Or.inl rfl) (Zl Zo (Zw FFt hr (Zc (pv 1) (Zc (pv 2) (Zc (Zl Zo (pv 5) Ze (fun _ _=>rfl)) (Zc (pv 4) Za))))) Ze (fun _ _=>rfl)))
   (Zb (Zj (i:=7) scMr.nd rfl (Or.inl rfl) (Zl Zo (Zw FFt hr (Zc (pv 1) (Zc (pv 2) (Zc (Zl Zo (pv 5) Ze (fun _ _=>rfl)) (Zc (pv 4) Za))))) Ze (fun _ _=>rfl)))
   (Zg (Zs (Yd (Zc (Z5 (Zc ZT (Zc (Zl Zo (pv 5) Ze (fun _ _=>rfl)) (Zc (pv 6) (Zc (pv 7) Za))))) (Zc (Z5 (Zc ZT (Zc (pv 3) (Zc (pv 6) Za)))) Za))))))),?_⟩
  have N:=I.N
  obtain⟨M,hM,o⟩:=I.hM
  have e:=N.ok _ (getD_mem I.hk)
  obtain⟨tk,htk,d⟩:=N.at' I.hk
  refine⟨_,rfl,p,_,_,_,rfl,rfl,SqT.of N.e1,rfl,_,rfl,u,_,_,_,rfl,rfl,SqT.of N.e2,Z3 htk,_,rfl,_,rfl,_,rfl,tk,_,_,_,rfl,rfl,SqT.of d,rfl,_,rfl,p,r,n,u,ts,a,c,(a.getD k (0,0)).1,m,rfl,N,I.hR,I.len,I.hm,fun H1 t1 t h1=>⟨t1,_,_,_,rfl,rfl,SqT.of h1,Z3 (j:=0) (nl_get (Zbh (J7 (m:=m) I.hk I.hb (x:=(a.getD k (0,0)).1) (.inl rfl) (hM _ e.1) o))),?_⟩⟩
  have I1:=I.same t
  refine⟨_,rfl,_,rfl,_,rfl,tk,_,_,_,rfl,rfl,SqT.of (t _ _ d),rfl,_,rfl,p,r,n,u,ts,a,c,(a.getD k (0,0)).2,m,rfl,I1.N,I1.hR,I.len,I.hm,fun H2 t2 s2 h2=>⟨t2,_,_,_,rfl,rfl,SqT.of h2,Z3 (j:=0) (nl_get (Zbh (J7 (m:=m) I.hk I.hb (x:=(a.getD k (0,0)).2) (.inr rfl) (hM _ e.2.1) o))),?_⟩⟩
  have g:=Same.trans t s2
  refine⟨_,rfl,tk,_,_,_,rfl,rfl,SqT.of (g _ _ d),rfl,_,rfl,_,rfl,rfl,fun a1 G1 u1 g1=>⟨_,rfl,_,rfl,rfl,fun a2 G2 u2 g2=>⟨(by show 2<=sizeLine;decide),fun l5 b=>?_⟩⟩⟩
  have l:=Same.trans g (Same.trans u1 u2)
  refine q _ l5 (Same.trans l (Zi b)) (l.none b) ?_
  rw[(show put2 a c k m=[.turn (a.getD k (0,0)).2 (oneOf a c k m) (twoOf a c k m),.tint k (oneOf a c k m)] by unfold put2;rw[if_neg h0])]
  refine⟨[(a1,_),(a2,_)],Zd,rfl,fun x hx=>?_⟩
  simp[List.mem_cons,List.not_mem_nil,or_false]at hx
  rcases hx with rfl|rfl
  ·exact Zi b _ _ (u2 _ _ g1)
  ·exact Zi b _ _ g2
abbrev ZlR:List Str:=["self","net","tints","tie","many","need","ends","shared"]
inductive ZhH(cM:Addr)(vs:List V)(H:Hp)(Q:VK)(_z3:XK):Prop
 |mk (s p r:Addr) (n:Nat) (q:Addr) (ts:List V) (es:List (Nat×Nat)) (tl:List (Option Nat)) (k m:Nat) (dx:Addr) (_:vs=[.ref s,.ref p,.ref r,.int k,.int m]) (_:H s=some (.ins cM dx [])) (_:RmIn H p r n q ts es tl k m) (_:(∀M,IsMax (dl es n) M->M<=m)) (_:∀H' l,Same H H'->H l=none->ShSt H' l (put2 es tl k m)->Q (.ref l) H')
theorem scPut:Zr ZlR ["self","net","tints","tie","many"] (Zh Ziq):=⟨rfl,rfl,rfl,by decide+kernel,rfl,by decide+kernel,by decide+kernel⟩
theorem ZiI{f}{fd}(F:Fun K "put" "Way.put" Ziq f fd)(T:Bi mg)(FBl:FnE P w K mg base "is_below" ["thing","bound"] 3 spBel)(FMo:FnE P w K mg base "most_of" ["net"] 3 spMo)(FFb:FnE P w K mg base "free_at_both" ["net","tints","one","other","many"] 3 spFb)
  (MN:MeE P w K mg base cM "needed" ["self","most"] 3 spNd)(MA:MeE P w K mg base cM "asked" ["self","net"] 3 spAk)(MR:MeE P w K mg base cM "made_room" nMr 3 spMr):FnOk P w K mg base CX0 4 f fd ["self","net","tints","tie","many"] (ZhH cM):=by
 refine F.ok scPut (fun vs H Q E h=>?_) (fun cdv A outer s H vs Q E hr h=>?_)
 ·obtain⟨s,p,r,n,q,ts,a,c,k,m,dx,rfl,_⟩:=h
  rfl
 ·obtain⟨d,p,r,n,qa,ts,a,c,k,m,dx,rfl,hs,I,hM,q⟩:=h
  refine⟨_,Zb (Z0 (PW.pt (pw_or (Yc (ZS (Zw FBl hr (Zc (pv 3) (Zc (Zn Zx rfl T.len YD (Zc (Zl Zo (pv 1) Ze (fun _ _=>rfl)) Za)) Za))))) (pw_or1 (Zm Y9 (Zl Zo (pv 2) (pv 3) (fun _ _=>rfl)) ZM (Zv _))))) Z8 Zt)
   (Zb (ZH (Zav MA hr (pv 0) (Zc (pv 1) Za)))
   (Zb (Zj (i:=5) scPut.nd rfl (Or.inl rfl) (Zav MN hr (pv 0) (Zc (Zw FMo hr (Zc (pv 1) Za)) Za)))
   (Zb (Z0 (Zm Zax (pv 4) (pv 5) (Zv _)) Z8 Zt)
   (Zb (Zj (i:=6) scPut.nd rfl (Or.inl rfl) (Zl Zo (Zl Zo (pv 1) Ze (fun _ _=>rfl)) (pv 3) (fun _ _=>rfl)))
   (Zb (Zj (i:=7) scPut.nd rfl (Or.inl rfl) (Zw FFb hr (Zc (pv 1) (Zc (pv 2) (Zc (Zl Zo (pv 6) Ze (fun _ _=>rfl)) (Zc (Zl Zo (pv 6) Ze (fun _ _=>rfl)) (Zc (pv 4) Za)))))))
   (Zb (Z0 (ZcA (pv 7) (fun _=>rfl)) (Zg (Zs (Yd (Zc (JF (Zc ZT (Zc (pv 3) (Zc (Zl Zo (pv 7) Ze (fun _ _=>rfl)) Za)))) Za)))) Zt)
   (Zg (Zs (Zav MR hr (pv 0) (Zc (pv 1) (Zc (pv 2) (Zc (pv 3) (Zc (pv 4) Za))))))))))))),?_⟩
  have N:=I.N
  have hlen:=N.len
  have hk:=I.hk
  refine⟨_,rfl,_,rfl,p,_,_,_,rfl,rfl,SqT.of N.e1,rfl,qa,_,rfl,.inr (SqT.of N.e2),(k:Int),_,rfl,by omega,by omega,_,rfl,ZD ⟨_,rfl,_,rfl,r,_,_,_,rfl,rfl,SqT.of I.hR,Z3 (Zdg I.hb),rfl,_,rfl,ZD ⟨_,rfl,d,dx,_,rfl,hs,rfl,_,rfl,d,p,n,qa,ts,a,rfl,N,I.hT,fun H0 s0=>⟨_,rfl,d,dx,_,rfl,s0 _ _ hs,rfl,_,rfl,p,n,qa,ts,a,rfl,N.same s0,fun H1 M s1' hMx=>⟨d,M,rfl,(ZaA hMx).1,?_⟩⟩⟩⟩⟩
  have s1:=Same.trans s0 s1'
  have hg:=hM M hMx
  have I1:=I.same s1
  refine⟨_,rfl,_,rfl,_,_,rfl,rfl,_,rfl,ZF (fun z=>absurd (of_decide_eq_true z) (by omega)) (fun _=>?_)⟩
  obtain⟨tk,htk,hta⟩:=I1.N.at' hk
  refine⟨_,rfl,p,_,_,_,rfl,rfl,SqT.of I1.N.e1,rfl,_,rfl,qa,_,_,_,rfl,rfl,SqT.of I1.N.e2,Z3 htk,_,rfl,_,rfl,_,rfl,tk,_,_,_,rfl,rfl,SqT.of hta,rfl,_,rfl,tk,_,_,_,rfl,rfl,SqT.of hta,rfl,_,rfl,p,r,n,qa,ts,a,c,(a.getD k (0,0)).1,(a.getD k (0,0)).2,m,rfl,I1.N,I1.hR,I.len,I.hm,fun H2 t s2 ht=>?_⟩
  have b:=Same.trans s1 s2
  by_cases h0:0<(both a c (a.getD k (0,0)).1 (a.getD k (0,0)).2 m).length
  ·have ep:put2 a c k m=[.tint k ((both a c (a.getD k (0,0)).1 (a.getD k (0,0)).2 m).getD 0 0)]:=by unfold put2;rw[if_pos h0]
   refine⟨_,rfl,true,.inr (.inl ⟨_,SqT.of ht,?_⟩),YA ?_⟩
   ·cases hz:both a c (a.getD k (0,0)).1 (a.getD k (0,0)).2 m with
    |nil=>rw[hz]at h0;cases h0
    |cons _ _=>rfl
   ·refine⟨_,rfl,_,rfl,t,_,_,_,rfl,rfl,SqT.of ht,Z3 (j:=0) (nl_get (Zbh h0)),(by show 3<=sizeLine;decide),fun u hu=>⟨(by show 1<=sizeLine;decide),fun l hl=>?_⟩⟩
    have s3:=Same.trans b (Zi (o:= .tup [.str "tint",.int (k:Int),.int (((both a c (a.getD k (0,0)).1 (a.getD k (0,0)).2 m).getD 0 0:Nat):Int)]) hu)
    refine q _ l (Same.trans s3 (Zi hl)) (s3.none hl) ?_
    rw[ep]
    refine⟨[(u,_)],Zd,rfl,fun x hx=>?_⟩
    rw[List.mem_singleton.mp hx]
    exact Zi hl _ _ Zd
  ·refine⟨_,rfl,false,.inr (.inl ⟨_,SqT.of ht,?_⟩),ZD ?_⟩
   ·cases hz:both a c (a.getD k (0,0)).1 (a.getD k (0,0)).2 m with
    |nil=>rfl
    |cons _ _=>exact absurd (by rw[hz];exact Nat.succ_pos _) h0
   ·exact⟨_,rfl,d,dx,_,rfl,b _ _ hs,rfl,_,rfl,_,rfl,_,rfl,_,rfl,d,p,r,n,qa,ts,a,c,k,m,rfl,I.same b,h0,fun H3 l s3 n3 h3=>(q H3 l (Same.trans b s3) (b.none n3) h3)⟩
end
theorem Zlc:bootBuiltins "str"=some (.type "str"):=by decide+kernel
section
variable{P:Program}{w:World}{K:PySem.W.Frag}{mg:Str->Option Value}{base:Heap}
abbrev sIt:Stmt:=top 27
inductive spIt(vs:List V)(H:Hp)(Q:VK)(_z3:XK):Prop
 |mk (i:Nat) (_:vs=[.int i]) (_:i<1000) (_:Q (.bl true) H)
theorem Zl7:Zr ["thing"] ["thing"] (Zh sIt):=⟨rfl,rfl,rfl,by decide+kernel,rfl,by decide+kernel,by decide+kernel⟩
theorem Zki{f}{fd}{tA}(F:Fun K "is_tint" "is_tint" sIt f fd)(mA:mg "ALL_TINTS"=some (.int 1000 tA))(FB:FnE P w K mg base "is_below" ["thing","bound"] 2 spBel):FnOk P w K mg base CX0 3 f fd ["thing"] spIt:=by
 refine F.ok Zl7 (fun a H Q E h=>?_) (fun _ A _ s H a Q E b h=>?_)
 ·obtain⟨i,rfl,_⟩:=h
  rfl
 ·obtain⟨i,rfl,_,q⟩:=h
  exact⟨_,Zg (Zs (Zw FB b (Zc (pv 0) (Zc (Ym (v:= .int 1000) rfl mA ⟨_,rfl⟩) Za)))),_,rfl,i,_,rfl,by omega,by omega,q⟩
abbrev sTs:Stmt:=top 34
inductive spTs(vs:List V)(H:Hp)(Q:VK)(_z3:XK):Prop
 |mk (p u n q ts es pt a b:_) (_:vs=[.ref p,.ref u]) (_:NetZ H p n q ts es) (_:H u=some (.tup (stV (.turn pt a b)))) (_:StOk n es.length 1000 (.turn pt a b)) (_:Q (.bl true) H)
theorem Zl1:Zr ["net","thing"] ["net","thing"] (Zh sTs):=⟨rfl,rfl,rfl,by decide+kernel,rfl,by decide+kernel,by decide+kernel⟩
theorem ZjT{f}{fd}(F:Fun K "is_turn_step" "is_turn_step" sTs f fd)(T:Bi mg)(FB:FnE P w K mg base "is_below" ["thing","bound"] 3 spBel)(FI:FnE P w K mg base "is_tint" ["thing"] 3 spIt):FnOk P w K mg base CX0 4 f fd ["net","thing"] spTs:=by
 refine F.ok Zl1 (fun vs H Q E h=>?_) (fun _ A _ s H vs Q E d h=>?_)
 ·obtain⟨p,u,n,q,i,es,g,a,b,rfl,_⟩:=h
  rfl
 ·obtain⟨p,u,n,qa,i,es,g,a,b,rfl,N,c,⟨o1,o2,o3,o4⟩,q⟩:=h
  refine⟨_,Zb (Z0 (PW.pt (pw_or (Zm ZaZ (Zn Zx rfl T.len YD (Zc (pv 1) Za)) Ze (Zv _))
      (pw_or1 (Yc (ZS (Zw FB d (Zc (Zl Zo (pv 1) Ze (fun _ _=>rfl)) (Zc (Zl Zo (pv 0) Ze (fun _ _=>rfl)) Za)))))))) (Zg (Zs ZE)) Zt)
   (Zg (Zs (Zao (Zw FI d (Zc (Zl Zo (pv 1) Ze (fun _ _=>rfl)) Za)) (Zao (Zw FI d (Zc (Zl Zo (pv 1) Ze (fun _ _=>rfl)) Za)) (ZaT (YH ZaZ (Zl Zo (pv 1) Ze (fun _ _=>rfl)) (Zl Zo (pv 1) Ze (fun _ _=>rfl)) (Zv _))))))),_,rfl,u,_,rfl,.inr (SqT.of c),rfl,_,rfl,ZD ⟨_,rfl,u,_,_,_,rfl,rfl,SqT.of c,rfl,_,rfl,p,_,_,_,rfl,rfl,SqT.of N.e1,rfl,g,_,rfl,by omega,by omega,_,rfl,ZD ⟨_,rfl,u,_,_,_,rfl,rfl,SqT.of c,rfl,a,rfl,o2,_,rfl,YA ⟨_,rfl,u,_,_,_,rfl,rfl,SqT.of c,rfl,b,rfl,o3,_,rfl,YA ⟨_,rfl,u,_,_,_,rfl,rfl,SqT.of c,rfl,_,rfl,u,_,_,_,rfl,rfl,SqT.of c,rfl,rfl,?_⟩⟩⟩⟩⟩
  have e:(!decide (V.int a=V.int b))=true:=by
   grind
  rw[e]
  exact q
abbrev sIs:Stmt:=top 37
theorem Zj9:Zr ["net","thing"] ["net","thing"] (Zh sIs):=⟨rfl,rfl,rfl,by decide+kernel,rfl,by decide+kernel,by decide+kernel⟩
theorem Zkj{f}{fd}(F:Fun K "is_step" "is_step" sIs f fd)(T:Bi mg)(hst:mg "str"=none)(FT:FnE P w K mg base "is_turn_step" ["net","thing"] 4 spTs):FnOk P w K mg base CX0 5 f fd ["net","thing"] spTs:=by
 refine F.ok Zj9 (fun vs H Q E h=>?_) (fun cdv A _ s H vs Q E hr h=>?_)
 ·obtain⟨p,u,n,q,g,j,i,a,b,rfl,_⟩:=h
  rfl
 ·obtain⟨p,u,n,qa,g,j,i,a,b,rfl,N,e,k,q⟩:=h
  refine⟨_,Zb (Z0 (PW.pt (pw_or (Yc (ZS (Zn ZO rfl T.isi YE (Zc (pv 1) (Zc (Yr (v:= .ty "tuple") rfl T.tuple Yl rfl) Za)))))
    (pw_or (Zm ZI (Zn Zx rfl T.len YD (Zc (pv 1) Za)) Ze (Zv _))
    (pw_or1 (Yc (ZS (Zn ZO rfl T.isi YE (Zc (Zl Zo (pv 1) Ze (fun _ _=>rfl)) (Zc (Yr (v:= .ty "str") rfl hst Zlc rfl) Za))))))))) (Zg (Zs ZE)) Zt)
   (Zb (Z0 (Zm ZI (Zl Zo (pv 1) Ze (fun _ _=>rfl)) ZT (Zv _)) (Zg (Zs (Zw FT hr (Zc (pv 0) (Zc (pv 1) Za))))) Zt)
   Z8),_,rfl,_,_,_,_,rfl,.tup e,kit K "tuple" "tuple" true (by decide+kernel),_,rfl,ZD ?_⟩
  exact⟨_,rfl,u,_,rfl,.inr (SqT.of e),rfl,_,rfl,ZD ⟨_,rfl,u,_,_,_,rfl,rfl,SqT.of e,rfl,_,_,_,_,rfl,.str _,kit K "str" "str" true (by decide+kernel),_,rfl,ZD ⟨_,rfl,u,_,_,_,rfl,rfl,SqT.of e,rfl,rfl,_,rfl,ZF (fun _=>⟨_,rfl,_,rfl,p,u,n,qa,g,j,i,a,b,rfl,N,e,k,q⟩) (fun z=>absurd (decide_eq_true rfl) z)⟩⟩⟩
abbrev sDo:Stmt:=top 38
abbrev nDo:List Str:=["net","tints","step","row"]
inductive spDo(vs:List V)(H:Hp)(Q:VK)(_z3:XK):Prop
 |mk (p r u:Addr) (n:Nat) (q:Addr) (ts:List V) (es:List (Nat×Nat)) (tl:List (Option Nat)) (pt a c:Nat) (_:vs=[.ref p,.ref r,.ref u]) (_:NetZ H p n q ts es) (_:H r=some (.tup (tv tl))) (_:tl.length=es.length) (_:es.length<64) (_:H u=some (.tup (stV (.turn pt a c)))) (_:StOk n es.length 1000 (.turn pt a c)) (_:∀H' t(S:List Nat),Same H H'->H' t=some (.tup (tv (trn tl a c S)))->S.Pairwise (·<·)->(∀k,k∈S↔RT es tl a c pt k)->Q (.ref t) H')
theorem scDo:Zr nDo ["net","tints","step"] (Zh sDo):=⟨rfl,rfl,rfl,by decide+kernel,rfl,by decide+kernel,by decide+kernel⟩
theorem Zkp{f}{fd}(F:Fun K "done" "done" sDo f fd)(FI:FnE P w K mg base "is_step" ["net","thing"] 5 spTs)(FT:FnE P w K mg base "turned" ["net","tints","point","one","other"] 5 spTu):FnOk P w K mg base CX0 6 f fd ["net","tints","step"] spDo:=by
 refine F.ok scDo (fun t H Q E h=>?_) (fun _ A _ s H t Q E k h=>?_)
 ·obtain⟨p,r,u,n,q,e,g,m,i,a,c,rfl,_⟩:=h
  rfl
 ·obtain⟨p,r,u,n,l,e,g,m,i,a,c,rfl,N,o,j,d,b,v,q⟩:=h
  refine⟨_,Zb (Z0 (Yc (ZS (Zw FI k (Zc (pv 0) (Zc (pv 2) Za))))) Z8 Zt)
   (Zb (Z0 (Zm ZI (Zl Zo (pv 2) Ze (fun _ _=>rfl)) ZT (Zv _)) (Zg (Zs (Zw FT k (Zc (pv 0) (Zc (pv 1) (Zc (Zl Zo (pv 2) Ze (fun _ _=>rfl)) (Zc (Zl Zo (pv 2) Ze (fun _ _=>rfl)) (Zc (Zl Zo (pv 2) Ze (fun _ _=>rfl)) Za)))))))) Zt)
   Z8),_,rfl,_,rfl,p,u,n,l,e,g,i,a,c,rfl,N,b,v,_,rfl,ZD ⟨_,rfl,u,_,_,_,rfl,rfl,SqT.of b,rfl,rfl,_,rfl,ZF (fun _=>⟨_,rfl,_,rfl,_,rfl,u,_,_,_,rfl,rfl,SqT.of b,rfl,_,rfl,u,_,_,_,rfl,rfl,SqT.of b,rfl,_,rfl,u,_,_,_,rfl,rfl,SqT.of b,rfl,p,r,n,l,e,g,m,i,a,c,rfl,N,o,j,d,q⟩) (fun z=>absurd (decide_eq_true rfl) z)⟩⟩
end
end My
namespace L2
open PySem PySem.Spec PyProof.Rows
open AutoSeq1 (wpAny_loadPart')
theorem Zdk(l)(items:Array _)(n)(dd:Option _)(sl:Array (Option Value))(u:Tok):
  Meets (Builtin.«tuple.__mul__» ⟨[.ref l,.int 1 u],[]⟩) (fun _ R s=>s.heap.get? l=some {cls:= .type "tuple",dict:=dd,data:= .seq items n,slots:=sl}/\R (.ok (.ret (Value.ref l))) s):=
 .of_wp fun _ w A R s h=>by
  obtain⟨_,g,d,_,os⟩:=s;obtain⟨a,h⟩:=h;wp_walk using wpAny_loadPart' a
  exact⟨_,rfl,h⟩
theorem Zdl(l)(items:Array _)(n)(dd:Option _)(sl:Array (Option Value))(u:Tok)(hc1:¬(items.isEmpty||((0:Int)==1))=true):
  Meets (Builtin.«tuple.__mul__» ⟨[.ref l,.int 0 u],[]⟩) (fun _ R s=>s.heap.get? l=some {cls:= .type "tuple",dict:=dd,data:= .seq items n,slots:=sl}/\R (.ok (.ret (Value.ref s.heap.objs.size))) {s with heap:=s.heap.push {cls:=Value.type "tuple",data:=Data.seq #[]},toks:=s.toks}):=
 .of_wp fun _ w A R s h=>by
  obtain⟨_,g,d,_,os⟩:=s;obtain⟨a,h⟩:=h;wp_walk using wpAny_loadPart' a
  first|exact⟨_,rfl,h⟩|(rw[if_neg hc1];wp_walk using wpAny_loadPart' a;exact⟨_,rfl,h⟩)
section
variable{X:Cx}
inductive rRepA(x:V)(y:V)(H:Hp)(Q:VK):Prop
 |mk (l:_) (k:Nat) (xs:_) (_:x= .ref l) (_:y= .int k) (_:H l=some (.tup xs)) (_:k<100000) (_:xs≠[]) (_:xs.length*k<=100000) (_:∀p H',Same H H'->H' p=some (.tup (List.replicate k xs).flatten)->Q (.ref p) H')
theorem ZgS:OpR X (binaryOp .Mult) rRepA:=by
 intro f s σ H x y v u Q I K e h
 obtain⟨l,k,M,rfl,rfl,B,C,j,m,q⟩:=h
 match k,C,m,q,e with
 |0,C,m,q,e=>
  cases K
  obtain⟨t,rfl⟩:=e
  obtain⟨c,r,G,_⟩:=I.tuple (SqT.of B)
  obtain⟨⟨J,g,o,i⟩,d,z,n,A⟩:=id G
  simp at z A
  subst z A
  have w:c.toArray.isEmpty=false:=by
   cases c with
   |nil=>exact absurd (r.nil_iff.mp rfl) j
   |_ a b=>rfl
  refine wpAny_binaryOp_repeat_ref (by decide) ⟨_,d,rfl⟩ (fun L=>typeIs_int L _ t) Yw F.fills_int_mul F.slot_int_rmul Jc F.slot_int_index.lookup
   (call_meets F.slot_int_rmul (typeIs_int s _ t) F.entry_int_rmul (F.args_int_rmul_2 _ _) (YC _ t l c.toArray n g i)
    ⟨d,rfl,⟨_,d,rfl⟩,call_meets F.slot_tuple_mul ⟨_,d,rfl⟩ F.entry_tuple_mul (F.args_tuple_mul_2 _ _) (Zdl l _ n g i t (by rw[w];decide)) ⟨d,?_⟩⟩)
  refine⟨.ref _,_,I.laid (fun b _ q=>Heap.get?_push_of_some _ q) (Nat.le_refl _) ?_,rfl,q _ _ (Zz I.fresh) Zd⟩
  exact⟨Nat.zero_le _,[],.nil,IsTup.new _ _⟩
 |1,C,m,q,e=>
  cases K
  obtain⟨t,rfl⟩:=e
  obtain⟨c,r,G,_⟩:=I.tuple (SqT.of B)
  obtain⟨⟨J,g,o,i⟩,d,z,n,A⟩:=id G
  subst z A
  refine wpAny_binaryOp_repeat_ref (T:="tuple") (U:="int") (by decide) ⟨_,d,rfl⟩ (fun L=>typeIs_int L _ t) Yw F.fills_int_mul F.slot_int_rmul Jc F.slot_int_index.lookup
   (call_meets F.slot_int_rmul (typeIs_int s _ t) F.entry_int_rmul (F.args_int_rmul_2 _ _) (YC _ t l c.toArray n g i)
    ⟨d,rfl,⟨_,d,rfl⟩,call_meets F.slot_tuple_mul ⟨_,d,rfl⟩ F.entry_tuple_mul (F.args_tuple_mul_2 _ _) (Zdk l c.toArray n g i t) ⟨d,?_⟩⟩)
  exact⟨.ref l,H,I,rfl,q l H (Same.refl H) (by rw[B];simp)⟩
 |k+2,C,m,q,e=>
  exact Zf6 f s σ H _ _ v u Q I K e ⟨l,_,M,rfl,rfl,B,by omega,by omega,j,m,fun p O N _=>q p O N (by grind)⟩
end
end L2
namespace L2
open PySem PySem.Spec PyProof.Rows
theorem Zi7{X}{e}:PE X e (fun _ _ _=>False):=fun _ _ _ _ _ _ h=>h.elim
structure FunD(K:PySem.W.Frag)(x qual:Str)(st:Stmt)(f:Addr)(fd:FuncData):Prop where
 ex:∃(oc:Value)(od:Option Addr)(dV kV doc pm:Value)(an:Option Addr)(cdv ct:Value)(osl:Array (Option Value)),
  fd=PySem.W.fnOf x qual (J8 st) (ZK st) (Zh st) dV kV doc pm an cdv ct/\K.lookup f=some ⟨oc,od,.func fd,osl⟩/\PySem.W.codeIn K cdv qual=true
section
variable{P:Program}{w:World}{K:PySem.W.Frag}{mg:Str->Option Value}{base:Heap}
theorem FunD.ok{x qual}{st}{f}{fd}{N ps:List _}{k}{sp:Sp}(F:FunD K x qual st f fd)(S:Zr N ps (Zh st))(len:∀vs H Q E,sp vs H Q E->vs.length=ps.length)
  (hbody:∀(cdv:Value)(A:Around)(outer:List _)(s:Shared)(H:Hp)(vs:List V)(Q:VK)(E:XK),Room k (A.deeper (envOfC qual (Zh st) s.heap.objs.size f cdv))->sp vs H Q E->
   ∃t,PSs (Yk CX0 P w K mg base N qual (Zh st) f cdv A outer s H E).nox (ZK st) t/\t {nx:=fun _ H'=>Q .non H',rt:=Q} (start N vs) H):FnOk P w K mg base CX0 (k+1) f fd ps sp:=by
 obtain⟨_,_,_,kV,_,_,_,cdv,_,_,rfl,c,a⟩:=F.ex
 refine ZcR c a S len fun A outer s H vs Q E d b=>?_
 obtain⟨t,h,q⟩:=hbody _ A _ s H vs Q E d b
 exact⟨t,h.nox,q⟩
end
end L2
namespace My
open PySem L2
theorem Zb9:¬(V.str "tint"=V.str "turn"):=by decide+kernel
section
variable{P:Program}{w:World}{K:PySem.W.Frag}{mg:Str->Option Value}{base:Heap}
abbrev sPc:Stmt:=top 28
abbrev nPc:List Str:=["net","tints","taken","ends","tint","point"]
inductive spPc(vs:List V)(H:Hp)(Q:VK)(_z3:XK):Prop
 |mk (p r n q ts es tl:_) (_:vs=[.ref p,.ref r]) (_:NetZ H p n q ts es) (_:H r=some (.lst (tv tl))) (_:tl.length=es.length) (_:∀H' b,Same H H'->(b=true↔CleanTo es tl es.length)->Q (.bl b) H')
theorem scPc:Zr nPc ["net","tints"] (Zh sPc):=⟨rfl,rfl,rfl,by decide+kernel,rfl,by decide+kernel,by decide+kernel⟩
theorem Zkd{f}{fd}(F:Fun K "is_clean" "is_clean" sPc f fd)(T:Bi mg):FnOk P w K mg base CX0 1 f fd ["net","tints"] spPc:=by
 refine F.ok scPc (fun vs H Q E h=>?_) (fun cdv A outer s H vs Q E hr h=>?_)
 ·obtain⟨p,r,n,q,ts,l,u,rfl,_⟩:=h
  rfl
 ·obtain⟨p,r,n,qa,ts,l,u,rfl,N,hR,htl,q⟩:=h
  have hu:=ZdZ hr
  refine⟨_,Zb (Zj (i:=2) scPc.nd rfl (Or.inl rfl) ZaV)
   (Zb (ZL PassesOwn.never rfl (Zi3 rfl T.zip (Zc (Zl Zo (pv 0) Ze (fun _ _=>rfl)) (Zc (pv 1) Za)) rfl rfl) (YB rfl (Zy (Zq (i:=3) scPc.nd rfl (Or.inl rfl)) (Zy (Zq (i:=4) scPc.nd rfl (Or.inl rfl)) Ya)))
    (Zg (Z0 (Zm Y9 (pv 4) ZM (Zv _))
     (Zg (ZL PassesOwn.never rfl (Yu (pv 3)) (Zq (i:=5) scPc.nd rfl (Or.inl rfl))
      (Zb (Z0 (JE (ZiA hu (Z5 (Zc (pv 5) (Zc (pv 4) Za))) (pv 2))) (Zg (Zs ZE)) Zt)
      (Zg (Jz hu (pv 2) (Z5 (Zc (pv 5) (Zc (pv 4) Za))) ZE rfl))))) Zt)))
   (Zg (Zs ZE))),?_⟩
  have h200:=N.l200
  have hlen:=N.len
  intro d hd
  have s0:Same H (upd H d (.dT [])):=Zi hd
  refine⟨_,rfl,p,_,_,_,rfl,rfl,SqT.of (s0 _ _ N.e1),rfl,_,rfl,qa,r,rfl,⟨_,SqT.of (s0 _ _ N.e2)⟩,⟨_,SqL.of (s0 _ _ hR)⟩,Zho (K:=K) (a:=qa) (c:=r) (xs:=ts) (ys:=tv u) (fun i σ H'=>∃m v3 v4 v5,σ=[some (.ref p),some (.ref r),some (.ref d),v3,v4,v5]/\Same H H'/\H' d=some (.dT m)/\m.length<=2*i/\CleanTo l u i/\Keys m (Used l u i))
   (by rw[Yp];omega) ⟨[],_,_,_,rfl,s0,Zd,Nat.le_refl _,CleanTo.zero _ _,fun p t=>⟨(fun z=>by cases z),fun z=>absurd z Used.zero⟩⟩ (fun i σ H' _⟨m,v3,v4,v5,_,sH,_⟩=>⟨SqT.of (sH _ _ N.e2),SqL.of (sH _ _ hR)⟩) (fun i x y σ H' hx hy xq1 TT H1 s1 hTT=>?_) (fun σ H' xq1=>?_)⟩
  ·obtain⟨m,v3,v4,v5,e,sH,hD,hkv,hC,hK⟩:=xq1
   subst e
   have hi:=(List.getElem?_eq_some_iff.mp hx).1
   have hie:i<l.length:=by omega
   obtain⟨o,ho,rfl⟩:=Jk hy
   obtain⟨a,rfl,ha⟩:=N.tie i x hx
   obtain⟨_,_,ab⟩:=N.ok _ (getD_mem hie)
   have sH1:=Same.trans sH s1
   refine⟨TT,_,rfl,SqT.of hTT,rfl,_,_,rfl,_,_,rfl,rfl,_,rfl,rfl,_,rfl,?_⟩
   cases o with
   |none=>
    refine ZD ⟨m,_,_,_,rfl,sH1,s1 _ _ hD,by omega,hC.succ fun t z=>?_,hK.iff fun x t=>?_⟩
    ·rw[ho]at z;cases z
    ·rw[Used.succ,ho]
     exact⟨.inl,fun z=>z.elim id fun⟨z1,_⟩=>by cases z1⟩
   |some t=>
    refine YA ?_
    generalize hA:(l.getD i (0,0)).1=A1 at*
    generalize hB:(l.getD i (0,0)).2=B1 at*
    have at1:At (l.getD i (0,0)) A1:= .inl hA.symm
    have at2:At (l.getD i (0,0)) B1:= .inr hB.symm
    refine⟨_,rfl,a,rfl,⟨_,SqT.of (sH1 _ _ ha)⟩,Yt (K:=K) (a:=a) (xs:=[.int A1,.int B1]) (fun j σ G=>∃g w5,σ=[some (.ref p),some (.ref r),some (.ref d),some (.ref a),some (.int t),w5]/\Same H G/\G d=some (.dT g)/\g.length<=2*i+j/\Keys g (fun x t'=>Used l u i x t'\/(t'=t/\((1<=j/\x=A1)\/(2<=j/\x=B1))))/\(1<=j->¬Used l u i A1 t)/\(2<=j->¬Used l u i B1 t))
     ⟨m,_,rfl,sH1,s1 _ _ hD,by omega,hK.iff fun x t'=>⟨.inl,fun z=>z.elim id fun⟨_,z2⟩=>by omega⟩,(fun z=>by omega),fun z=>by omega⟩ (fun j σ G _⟨g,w5,_,sG,_⟩=>SqT.of (sG _ _ ha)) (fun j x σ G hx' xq1=>?_) (fun σ G xq1=>?_)⟩
    ·obtain⟨g,w5,e,sG,gD,gk,gK,g1,g2⟩:=xq1
     subst e
     obtain⟨X1,rfl,hj,hat,hnot,hks,hnew⟩:∃X1:Nat,x= .int X1/\j<2/\At (l.getD i (0,0)) X1/\((Used l u i X1 t\/(t=t/\((1<=j/\X1=A1)\/(2<=j/\X1=B1))))->Used l u i X1 t)/\
       (∀x' t',((Used l u i x' t'\/(t'=t/\((1<=j/\x'=A1)\/(2<=j/\x'=B1))))\/(x'=X1/\t'=t))↔(Used l u i x' t'\/(t'=t/\((1<=j+1/\x'=A1)\/(2<=j+1/\x'=B1)))))/\(¬Used l u i X1 t->(1<=j+1->¬Used l u i A1 t)/\(2<=j+1->¬Used l u i B1 t)):=by
      grind
     refine⟨_,rfl,_,rfl,rfl,fun t1 G1 u1 h1=>⟨_,rfl,d,_,rfl,DGet.t (k:=ky X1 t) (u1 _ _ gD) h1,_,rfl,ZF (fun hz=>?_) (fun hz=>?_)⟩⟩
     ·exact q G1 false (Same.trans sG u1) ⟨(fun z=>by cases z),fun z=>absurd z (CleanTo.not hie ho hat (hnot ((gK _ _).mp hz)))⟩
     ·have l1:=ZN g (ky X1 t) (V.bl true)
      exact⟨_,rfl,_,rfl,_,rfl,rfl,fun t2 G2 u2 h2=>⟨d,_,rfl,DPut.t (k:=ky X1 t) (u2 _ _ (u1 _ _ gD)) h2 (by rw[sizeLine_eq];omega),_,_,rfl,(Same.trans (Same.trans sG u1) u2).wr hd,Zd,by omega,(gK.put _ _ _).iff hks,hnew fun z=>hz ((gK _ _).mpr (.inl z))⟩⟩
    ·obtain⟨g,w5,e,sG,gD,gk,gK,g1,g2⟩:=xq1
     subst e
     refine⟨g,_,_,_,rfl,sG,gD,(by simp[List.length_cons,List.length_nil]at gk;omega),hC.succ fun t' z x hx'=>?_,gK.iff fun x t'=>?_⟩
     ·rw[ho]at z
      cases z
      rcases hx' with rfl|rfl
      ·rw[hA];exact g1 (by show 1<=2;decide)
      ·rw[hB];exact g2 (by show 2<=2;decide)
     ·rw[Used.succ,ho]
      constructor
      ·rintro(z|⟨rfl,⟨_,rfl⟩|⟨_,rfl⟩⟩)
       ·exact .inl z
       ·exact .inr ⟨rfl,at1⟩
       ·exact .inr ⟨rfl,at2⟩
      ·rintro(z|⟨z,hx'⟩)
       ·exact .inl z
       ·cases z
        rcases hx' with rfl|rfl
        ·exact .inr ⟨rfl,.inl ⟨by show 1<=2;decide,hA⟩⟩
        ·exact .inr ⟨rfl,.inr ⟨by show 2<=2;decide,hB⟩⟩
  ·obtain⟨m,v3,v4,v5,e,sH,hD,hkv,hC,hK⟩:=xq1
   rw[show ts.length=l.length from hlen]at hC
   exact q H' true sH ⟨fun _=>hC,fun _=>rfl⟩
abbrev sTn:Stmt:=top 35
inductive spTn(vs:List V)(H:Hp)(Q:VK)(_z3:XK):Prop
 |mk (p u n q ts es k t:_) (_:vs=[.ref p,.ref u]) (_:NetZ H p n q ts es) (_:H u=some (.tup (stV (.tint k t)))) (_:StOk n es.length 1000 (.tint k t)) (_:Q (.bl true) H)
theorem Zl3:Zr ["net","thing"] ["net","thing"] (Zh sTn):=⟨rfl,rfl,rfl,by decide+kernel,rfl,by decide+kernel,by decide+kernel⟩
theorem ZjV{f}{fd}(F:Fun K "is_tint_step" "is_tint_step" sTn f fd)(T:Bi mg)(FB:FnE P w K mg base "is_below" ["thing","bound"] 3 spBel)(FI:FnE P w K mg base "is_tint" ["thing"] 3 spIt):FnOk P w K mg base CX0 4 f fd ["net","thing"] spTn:=by
 refine F.ok Zl3 (fun g H Q E h=>?_) (fun _ A _ s H g Q E c h=>?_)
 ·obtain⟨p,u,n,q,d,i,k,t,rfl,_⟩:=h
  rfl
 ·obtain⟨p,u,n,j,d,i,k,t,rfl,N,b,⟨_,e⟩,q⟩:=h
  refine⟨_,Zg (Zs (Zao (YH ZI (Zn Zx rfl T.len YD (Zc (pv 1) Za)) Ze (Zv _))
   (Zao (Zw FB c (Zc (Zl Zo (pv 1) Ze (fun _ _=>rfl)) (Zc (Zn Zx rfl T.len YD (Zc (Zl Zo (pv 0) Ze (fun _ _=>rfl)) Za)) Za)))
    (ZaT (Zw FI c (Zc (Zl Zo (pv 1) Ze (fun _ _=>rfl)) Za)))))),?_⟩
  have _:=N.len
  exact⟨_,rfl,u,_,rfl,.inr (SqT.of b),rfl,_,rfl,ZF (fun _=>⟨_,rfl,u,_,_,_,rfl,rfl,SqT.of b,rfl,_,rfl,p,_,_,_,rfl,rfl,SqT.of N.e1,rfl,j,_,rfl,.inr (SqT.of N.e2),k,_,rfl,by omega,by omega,_,rfl,YA ⟨_,rfl,u,_,_,_,rfl,rfl,SqT.of b,rfl,t,rfl,e,q⟩⟩) (fun z=>absurd (decide_eq_true rfl) z)⟩
def Put:Stp->Prop
 | .bare _=>False
 |_=>True
inductive spIs2(vs:List V)(H:Hp)(Q:VK)(_z3:XK):Prop
 |mk (p u n q ts es st:_) (_:vs=[.ref p,.ref u]) (_:NetZ H p n q ts es) (_:H u=some (.tup (stV st))) (_:StOk n es.length 1000 st) (_:Put st) (_:Q (.bl true) H)
theorem ZiM{f}{fd}(F:Fun K "is_step" "is_step" sIs f fd)(T:Bi mg)(hst:mg "str"=none)(FT:FnE P w K mg base "is_turn_step" ["net","thing"] 4 spTs)(FN:FnE P w K mg base "is_tint_step" ["net","thing"] 4 spTn):FnOk P w K mg base CX0 5 f fd ["net","thing"] spIs2:=by
 refine F.ok Zj9 (fun vs H Q E h=>?_) (fun cdv A _ s H vs Q E hr h=>?_)
 ·obtain⟨p,u,n,q,ts,g,st,rfl,_⟩:=h
  rfl
 ·obtain⟨p,u,n,qa,ts,g,st,rfl,N,e,ok,hp,q⟩:=h
  refine⟨_,Zb (Z0 (PW.pt (pw_or (Yc (ZS (Zn ZO rfl T.isi YE (Zc (pv 1) (Zc (Yr (v:= .ty "tuple") rfl T.tuple Yl rfl) Za)))))
    (pw_or (Zm ZI (Zn Zx rfl T.len YD (Zc (pv 1) Za)) Ze (Zv _))
    (pw_or1 (Yc (ZS (Zn ZO rfl T.isi YE (Zc (Zl Zo (pv 1) Ze (fun _ _=>rfl)) (Zc (Yr (v:= .ty "str") rfl hst Zlc rfl) Za))))))))) (Zg (Zs ZE)) Zt)
   (Zb (Z0 (Zm ZI (Zl Zo (pv 1) Ze (fun _ _=>rfl)) ZT (Zv _)) (Zg (Zs (Zw FT hr (Zc (pv 0) (Zc (pv 1) Za))))) Zt)
   (Zb (Z0 (Zm ZI (Zl Zo (pv 1) Ze (fun _ _=>rfl)) ZT (Zv _)) (Zg (Zs (Zw FN hr (Zc (pv 0) (Zc (pv 1) Za))))) Zt)
   Z8)),?_⟩
  cases st with
  |bare k=>exact hp.elim
  |turn pt a b=>
   exact⟨_,rfl,_,_,_,_,rfl,.tup e,kit K "tuple" "tuple" true (by decide+kernel),_,rfl,ZD ⟨_,rfl,u,_,rfl,.inr (SqT.of e),rfl,_,rfl,ZD ⟨_,rfl,u,_,_,_,rfl,rfl,SqT.of e,rfl,_,_,_,_,rfl,.str _,kit K "str" "str" true (by decide+kernel),_,rfl,ZD ⟨_,rfl,u,_,_,_,rfl,rfl,SqT.of e,rfl,rfl,_,rfl,ZF (fun _=>⟨_,rfl,_,rfl,p,u,n,qa,ts,g,pt,a,b,rfl,N,e,ok,q⟩) (fun z=>absurd (decide_eq_true rfl) z)⟩⟩⟩⟩
  |tint k t=>
   exact⟨_,rfl,_,_,_,_,rfl,.tup e,kit K "tuple" "tuple" true (by decide+kernel),_,rfl,ZD ⟨_,rfl,u,_,rfl,.inr (SqT.of e),rfl,_,rfl,ZD ⟨_,rfl,u,_,_,_,rfl,rfl,SqT.of e,rfl,_,_,_,_,rfl,.str _,kit K "str" "str" true (by decide+kernel),_,rfl,ZD ⟨_,rfl,u,_,_,_,rfl,rfl,SqT.of e,rfl,rfl,_,rfl,ZF (fun z=>absurd (of_decide_eq_true z) Zb9) (fun _=>⟨_,rfl,u,_,_,_,rfl,rfl,SqT.of e,rfl,rfl,_,rfl,ZF (fun _=>⟨_,rfl,_,rfl,p,u,n,qa,ts,g,k,t,rfl,N,e,ok,q⟩) (fun z=>absurd (decide_eq_true rfl) z)⟩)⟩⟩⟩⟩
inductive spDo2(vs:List V)(H:Hp)(Q:VK)(_z3:XK):Prop
 |mk (p r u n q ts es tl tE st:_) (_:vs=[.ref p,.ref r,.ref u]) (_:NetZ H p n q ts es) (_:H r=some (.tup (tv tl))) (_:tl.length=es.length) (_:es.length<64) (_:H u=some (.tup (stV st))) (_:StOk n es.length 1000 st) (_:Put st) (_:Did es tl st tE) (_:CleanTo es tE es.length) (_:∀H' t,Same H H'->H' t=some (.tup (tv tE))->Q (.ref t) H')
theorem ZiO{f}{fd}(F:Fun K "done" "done" sDo f fd)(T:Bi mg)(FI:FnE P w K mg base "is_step" ["net","thing"] 5 spIs2)(FT:FnE P w K mg base "turned" ["net","tints","point","one","other"] 5 spTu)(FC:FnE P w K mg base "is_clean" ["net","tints"] 5 spPc):FnOk P w K mg base CX0 6 f fd ["net","tints","step"] spDo2:=by
 refine F.ok scDo (fun vs H Q E h=>?_) (fun cdv A outer s H vs Q E hr h=>?_)
 ·obtain⟨p,r,u,n,q,ts,es,l,j,st,rfl,_⟩:=h
  rfl
 ·obtain⟨p,r,u,n,qa,ts,es,l,j,st,rfl,N,hR,m,h64,g,ok,hp,hd,hCl,q⟩:=h
  refine⟨_,Zb (Z0 (Yc (ZS (Zw FI hr (Zc (pv 0) (Zc (pv 2) Za))))) Z8 Zt)
   (Zb (Z0 (Zm ZI (Zl Zo (pv 2) Ze (fun _ _=>rfl)) ZT (Zv _)) (Zg (Zs (Zw FT hr (Zc (pv 0) (Zc (pv 1) (Zc (Zl Zo (pv 2) Ze (fun _ _=>rfl)) (Zc (Zl Zo (pv 2) Ze (fun _ _=>rfl)) (Zc (Zl Zo (pv 2) Ze (fun _ _=>rfl)) Za)))))))) Zt)
   (Zb (Zj (i:=3) scDo.nd rfl (Or.inl rfl) (Z1 Zac rfl T.list Zdb (Zc (pv 1) Za)))
   (Zb (Yq (JU (Zm ZI (Zl Zo (pv 2) Ze (fun _ _=>rfl)) ZT (Zv _)) (Zl Zo (pv 2) Ze (fun _ _=>rfl)) ZM) (Jd (pv 3) (Zl Zo (pv 2) Ze (fun _ _=>rfl)) ZU))
   (Zb (Z0 (Yc (ZS (Zw FC hr (Zc (pv 0) (Zc (pv 3) Za))))) Z8 Zt)
   (Zg (Zs (Z1 Z7 rfl T.tuple Yl (Zc (pv 3) Za)))))))),_,rfl,_,rfl,p,u,n,qa,ts,es,st,rfl,N,g,ok,hp,_,rfl,ZD ?_⟩
  cases st with
  |bare k=>exact hp.elim
  |turn pt a c=>
   refine⟨_,rfl,u,_,_,_,rfl,rfl,SqT.of g,rfl,rfl,_,rfl,ZF (fun _=>⟨_,rfl,_,rfl,_,rfl,u,_,_,_,rfl,rfl,SqT.of g,rfl,_,rfl,u,_,_,_,rfl,rfl,SqT.of g,rfl,_,rfl,u,_,_,_,rfl,rfl,SqT.of g,rfl,p,r,n,qa,ts,es,l,pt,a,c,rfl,N,hR,m,h64,fun H' t S o ht hS hRT=>q H' t o ?_⟩) (fun z=>absurd (decide_eq_true rfl) z)⟩
   rw[ht,Did.uniq (s:= .turn pt a c) ⟨S,hS,hRT,rfl⟩ hd]
  |tint k t=>
   refine⟨_,rfl,u,_,_,_,rfl,rfl,SqT.of g,rfl,rfl,_,rfl,ZF (fun z=>absurd (of_decide_eq_true z) Zb9) (fun _=>⟨_,rfl,r,_,rfl,.inr (SqT.of hR),fun e v=>?_⟩)⟩
   have x:Same H (upd H e (.lst (tv l))):=Zi v
   have g0:(upd H e (.lst (tv l))) e=some (.lst (tv l)):=Zd
   generalize upd H e (.lst (tv l))=H0 at x g0
   refine⟨_,rfl,u,_,_,_,rfl,rfl,SqT.of (x _ _ g),rfl,rfl,_,rfl,ZF (fun _=>⟨_,rfl,u,_,_,_,rfl,rfl,SqT.of (x _ _ g),rfl,_,rfl,_,rfl,u,_,_,_,rfl,rfl,SqT.of (x _ _ g),rfl,e,_,k,rfl,rfl,g0,(show k<(tv l).length by rw[Yp,m];exact ok.1),?_⟩) (fun z=>absurd (decide_eq_true rfl) z)⟩
   have e1:(tv l).set k (.int (t:Int))=tv j:=by
    rw[hd,<-Zfb]
    rfl
   rw[e1]
   have o:Same H (upd H0 e (.lst (tv j))):=x.wr v
   have g1:(upd H0 e (.lst (tv j))) e=some (.lst (tv j)):=Zd
   generalize upd H0 e (.lst (tv j))=H1 at o g1
   refine⟨_,rfl,_,rfl,p,e,n,qa,ts,es,j,rfl,N.same o,g1,(show j.length=es.length by rw[hd.len];exact m),fun H2 b s2 hb=>⟨_,rfl,?_⟩⟩
   have eb:=hb.mpr hCl
   subst eb
   exact ZD ⟨_,rfl,e,_,rfl,.inl (s2 _ _ g1),fun t' H3 s3 ht=>(q H3 t' (Same.trans (Same.trans o s2) s3) ht)⟩
theorem Wk.inv{es}{n m}{s}{sl}{tl t2}(h:Wk es n m (s::sl) tl t2):∃t1,StOk n es.length m s/\Did es tl s t1/\CleanTo es t1 es.length/\Wk es n m sl t1 t2:=by
 cases h with
 |cons a b c d=>exact⟨_,a,b,c,d⟩
theorem Wk.inv0{es}{n m}{tl t2}(h:Wk es n m [] tl t2):t2=tl:=by
 cases h;rfl
theorem StOk.up{n L m m'}{s}(h:StOk n L m s)(hm:m<=m'):StOk n L m' s:=by
 cases s with
 |turn p u v=>exact⟨h.1,Nat.lt_of_lt_of_le h.2.1 hm,Nat.lt_of_lt_of_le h.2.2.1 hm,h.2.2.2⟩
 |tint k t=>exact⟨h.1,Nat.lt_of_lt_of_le h.2 hm⟩
 |_ k=>exact h
abbrev sWa:Stmt:=top 39
abbrev nWa:List Str:=["net","tints","steps","told","now","step"]
inductive spWa(vs:List V)(H:Hp)(Q:VK)(_z3:XK):Prop
 |mk (p r l n q ts es tl tE sl m:_) (_:vs=[.ref p,.ref r,.ref l]) (_:NetZ H p n q ts es) (_:H r=some (.tup (tv tl))) (_:tl.length=es.length) (_:es.length<64) (_:ShSt H l sl) (_:sl.length<=100) (_:Wk es n m sl tl tE) (_:m<=1000) (_:(∀s∈sl,Put s)) (_:∀H' d(xs) z,Same H H'->H' d=some (.lst xs)->xs.length=sl.length->(.ref r::xs).getLast?=some (.ref z)->H' z=some (.tup (tv tE))->Q (.ref d) H')
theorem scWa:Zr nWa ["net","tints","steps"] (Zh sWa):=⟨rfl,rfl,rfl,by decide+kernel,rfl,by decide+kernel,by decide+kernel⟩
theorem ZjP{f}{fd}(F:Fun K "walked" "walked" sWa f fd)(FD:FnE P w K mg base "done" ["net","tints","step"] 6 spDo2):FnOk P w K mg base CX0 7 f fd ["net","tints","steps"] spWa:=by
 refine F.ok scWa (fun vs H Q E h=>?_) (fun cdv A outer s H vs Q E hr h=>?_)
 ·obtain⟨p,r,l,n,q,ts,es,tl,tE,sl,m,rfl,_⟩:=h
  rfl
 ·obtain⟨p,r,l,n,qa,ts,es,tl,tE,sl,m,rfl,N,hR,htl,h64,⟨tr,hL,hsl,hU⟩,hsl1,hW,hm,hput,q⟩:=h
  refine⟨_,Zb (Zj (i:=3) scWa.nd rfl (Or.inl rfl) (Yd Za))
   (Zb (Zj (i:=4) scWa.nd rfl (Or.inl rfl) (pv 1))
   (Zb (ZL PassesOwn.never rfl (JS (pv 2)) (Zq (i:=5) scWa.nd rfl (Or.inl rfl))
    (Zb (Zj (i:=4) scWa.nd rfl (Or.inl rfl) (Zw FD hr (Zc (pv 0) (Zc (pv 4) (Zc (pv 5) Za)))))
    (Zg (ZH (YT PySem.F.plainAttrs_list PySem.F.slot_list_append PySem.F.type_list_append ZX (pv 3) (Zc (pv 4) Za))))))
   (Zg (Zs (pv 3))))),Nat.zero_le _,fun D hD=>?_⟩
  have s0:Same H (upd H D (.lst [])):=Zi hD
  have g0:(upd H D (.lst [])) D=some (.lst []):=Zd
  generalize upd H D (.lst [])=H0 at s0 g0
  refine⟨_,rfl,_,rfl,l,rfl,⟨_,SqL.of (s0 _ _ hL)⟩,Jv (K:=K) (a:=l) (xs:=tr.map fun x=>V.ref x.1) (fun i σ G=>Same H G/\∃rr d v5 xs,σ=[some (.ref p),some (.ref r),some (.ref l),some (.ref D),some (.ref rr),v5]/\G rr=some (.tup (tv d))/\d.length=es.length/\Wk es n m (sl.drop i) d tE/\G D=some (.lst xs)/\xs.length=i/\(.ref r::xs).getLast?=some (.ref rr))
   ⟨s0,r,tl,_,[],rfl,s0 _ _ hR,htl,hW,g0,rfl,rfl⟩ (fun i σ G _ z=>SqL.of (z.1 _ _ hL)) (fun i x σ G hx xq1=>?_) (fun σ G xq1=>?_)⟩
  ·obtain⟨sH,rr,d,v5,xs,e,u,hl',g,gD,j,hla⟩:=xq1
   subst e
   rw[List.getElem?_map]at hx
   cases ht:tr[i]? with
   |none=>rw[ht]at hx;cases hx
   |some y=>
    rw[ht]at hx
    cases hx
    have hs:sl[i]?=some y.2:=by rw[<-hsl,List.getElem?_map,ht];rfl
    have hil:=(List.getElem?_eq_some_iff.mp hs).1
    have hdr:sl.drop i=y.2::sl.drop (i+1):=by
     rw[List.drop_eq_getElem_cons hil]
     rw[List.getElem?_eq_getElem hil]at hs
     rw[Option.some.inj hs]
    rw[hdr]at g
    obtain⟨t1,w1,w2,w3,w4⟩:=g.inv
    refine⟨_,rfl,_,rfl,_,rfl,p,rr,y.1,n,qa,ts,es,d,t1,y.2,rfl,N.same sH,u,hl',h64,sH _ _ (hU y (List.mem_of_getElem? ht)),w1.up hm,hput _ (List.mem_of_getElem? hs),w2,w3,fun G1 r1 s1 h1=>?_⟩
    have gD1:=s1 _ _ gD
    refine⟨_,rfl,.inl ⟨rfl,_,SqL.of gD1⟩,_,rfl,D,_,_,rfl,rfl,gD1,(by rw[j,sizeLine_eq];omega),(show Same H (upd G1 D (.lst (xs++[.ref r1])))from(Same.trans sH s1).wr hD),r1,t1,_,xs++[.ref r1],rfl,?_,by rw[w2.len];exact hl',w4,Zd,by rw[List.length_append,j];rfl,by rw[<-List.cons_append,List.getLast?_concat]⟩
    rw[Zf fun z=>by rw[z,gD1]at h1;cases h1]
    exact h1
  ·obtain⟨sH,rr,d,v5,xs,e,u,hl',g,gD,j,hla⟩:=xq1
   subst e
   rw[List.length_map,(show tr.length=sl.length by rw[<-hsl,List.length_map])]at g j
   rw[List.drop_length]at g
   have e:=g.inv0
   subst e
   exact⟨_,rfl,q G D xs rr sH gD j hla u⟩
abbrev sBh:Stmt:=top 40
inductive spBh(vs:List V)(H:Hp)(Q:VK)(_z3:XK):Prop
 |mk (p r l n q ts es tl tE sl m:_) (_:vs=[.ref p,.ref r,.ref l]) (_:NetZ H p n q ts es) (_:H r=some (.tup (tv tl))) (_:tl.length=es.length) (_:es.length<64) (_:ShSt H l sl) (_:sl.length<=100) (_:Wk es n m sl tl tE) (_:m<=1000) (_:(∀s∈sl,Put s)) (_:∀H' z,Same H H'->H' z=some (.tup (tv tE))->Q (.ref z) H')
theorem ZlA:Zr ["net","tints","steps"] ["net","tints","steps"] (Zh sBh):=⟨rfl,rfl,rfl,by decide+kernel,rfl,by decide+kernel,by decide+kernel⟩
theorem Zkt{f}{fd}(F:Fun K "behind" "behind" sBh f fd)(FW:FnE P w K mg base "walked" ["net","tints","steps"] 7 spWa):FnOk P w K mg base CX0 8 f fd ["net","tints","steps"] spBh:=by
 refine F.ok ZlA (fun vs H Q E h=>?_) (fun cdv A _ s H vs Q E hr h=>?_)
 ·obtain⟨p,r,l,n,q,ts,es,tl,tE,sl,m,rfl,_⟩:=h
  rfl
 ·obtain⟨p,r,l,n,qa,ts,es,tl,tE,sl,m,rfl,N,hR,htl,j,k,g,hW,hm,e,q⟩:=h
  refine⟨_,Zg (Zs (Zl Z6 (Zp JX (Ye (Zc (pv 1) Za)) (Zw FW hr (Zc (pv 0) (Zc (pv 1) (Zc (pv 2) Za))))) (ZaS JC Ze) (fun _ _=>rfl))),_,rfl,rfl,fun a H1 i h1=>⟨_,rfl,_,rfl,_,rfl,p,r,l,n,qa,ts,es,tl,tE,sl,m,rfl,N.same i,i _ _ hR,htl,j,k.same i,g,hW,hm,e,fun H2 d xs z s2 hd hxl hla hz=>⟨a,d,_,_,rfl,rfl,s2 _ _ h1,hd,(by grind),fun c H3 s3 hc=>?_⟩⟩⟩
  obtain⟨b,hys⟩:∃b,V.ref r::xs=b++[.ref z]:=by
   have:=List.getLast?_eq_some_iff.mp hla
   obtain⟨b,h⟩:=this
   exact⟨b,h⟩
  exact⟨_,rfl,c,_,_,_,rfl,rfl,SqL.of (show H3 c=some (.lst (b++[.ref z])) by grind),Zbs b _,q H3 z (Same.trans i (Same.trans s2 s3)) (s3 _ _ hz)⟩
abbrev sWm:Stmt:=top 58
inductive spWm(vs:List V)(H:Hp)(Q:VK)(_z3:XK):Prop
 |mk (s:_) (_:vs=[.ref s]) (_:Q (.ref s) H)
theorem Zl0:Zr ["way"] ["way"] (Zh sWm):=⟨rfl,rfl,rfl,by decide+kernel,rfl,by decide+kernel,by decide+kernel⟩
theorem ZjO{f}{fd}(F:Fun K "way_or_manifold" "way_or_manifold" sWm f fd):FnOk P w K mg base CX0 1 f fd ["way"] spWm:=by
 refine F.ok Zl0 (fun a H Q E h=>?_) (fun _ A _ s H a Q E _ h=>?_)
 ·obtain⟨s,rfl,_⟩:=h
  rfl
 ·obtain⟨_,rfl,q⟩:=h
  exact⟨_,Zg (Zs (JU (Zm Zcj (pv 0) ZM (Zv _)) Zi7 (pv 0))),_,rfl,rfl,_,rfl,ZF (fun z=>absurd (of_decide_eq_true z) (fun e=>nomatch e)) (fun _=>⟨_,rfl,q⟩)⟩
end
theorem Zje{es}{n m}{s}{tl t1}(so:StOk n es.length m s)(d:Did es tl s t1)(h:∀t,some t∈tl->t<m):∀t,some t∈t1->t<m:=by
 intro t a
 obtain⟨j,e⟩:=List.getElem?_of_mem a
 cases s with
 |turn p u v=>
  obtain⟨S,_,g,rfl⟩:=d
  by_cases c:t=u
  ·rw[c];exact so.2.1
  ·by_cases b:t=v
   ·rw[b];exact so.2.2.1
   ·exact h t (List.mem_of_getElem? ((Zbj so.2.2.2 (fun k i=>((g k).mp i).2.1) c b).mp e))
 |tint k _=>
  subst d
  rcases List.mem_or_eq_of_mem_set a with z|z
  ·exact h t z
  ·rw[Option.some.inj z];exact so.2
 |_ k=>
  subst d
  rcases List.mem_or_eq_of_mem_set a with z|z
  ·exact h t z
  ·cases z
theorem Zjq{es}{n m}{sl}{tl a}(h:Wk es n m sl tl a):(∀t,some t∈tl->t<m)->∀t,some t∈a->t<m:=by
 induction h with
 |nil=>exact fun z=>z
 |_ b d _ _ c=>exact fun z=>c (Zje b d z)
inductive Td(es:List (Nat×Nat))(n m:Nat):Nat->List (Option Nat)->Prop
 |zero:Td es n m 0 (List.replicate es.length none)
 |succ {k:Nat} {tl tE:List (Option Nat)}:Td es n m k tl->Wk es n m (put2 es tl k m) tl tE->Td es n m (k+1) tE
structure TdOk(es:List (Nat×Nat))(m k:Nat)(tl:List (Option Nat)):Prop where
 len:tl.length=es.length
 cl:CleanTo es tl es.length
 lt:∀t,some t∈tl->t<m
 had:∀j,j<k->∃t,tl[j]?=some (some t)
 bare:∀j,k<=j->j<es.length->tl[j]?=some none
theorem TdOk.zero(es)(m):TdOk es m 0 (List.replicate es.length none):=by
 refine⟨List.length_replicate,fun i j t a _ _=>?_,fun t _=>?_,fun j a=>absurd a (Nat.not_lt_zero _),fun j _ a=>?_⟩
 ·simp_all
 ·grind
 ·simp_all
theorem TdOk.succ{es}{n m k}{tl}(ok:∀e∈es,e.1<n/\e.2<n/\e.1≠e.2) (hT:Two es) (hM:∀x,x<n->dg es es.length x<=m) (hk:k<es.length) (h:TdOk es m k tl):
  ∃tE,Wk es n m (put2 es tl k m) tl tE/\TdOk es m (k+1) tE:=by
 obtain⟨tE,w,l,c,⟨t,_⟩,g,_⟩:=(ZgN ok hT h.cl h.len hk (h.bare k (Nat.le_refl _) hk) hM (Nat.le_refl _)).ex
 refine⟨tE,w,l,c,Zjq w h.lt,fun j b=>?_,fun j b d=>(g j (by omega)).mpr (h.bare j (by omega) d)⟩
 by_cases e:j=k
 ·grind
 ·obtain⟨_,_⟩:=h.had j (by omega)
  obtain⟨o,f⟩:∃o,tE[j]?=some o:=⟨_,List.getElem?_eq_getElem (by omega)⟩
  cases o with
  |none=>simp_all
  |some z=>exact⟨z,f⟩
theorem Zft{es}{tl}{k m}:∀s∈put2 es tl k m,Put s:=by
 intro s a
 unfold put2 at a
 split at a
 ·rw[List.mem_singleton.mp a];trivial
 ·rcases List.mem_cons.mp a with rfl|a
  ·trivial
  ·rw[List.mem_singleton.mp a];trivial
theorem Zfu{es}{tl}{k m}:(put2 es tl k m).length<=100:=by
 unfold put2
 split
 ·simp_all
 ·simp_all
def toT(tl:List (Option Nat))(t i:Nat):List Nat:=(List.range i).filter fun k=>decide (tl[k]?=some (some t))
theorem Zia{tl}{t i}(h:tl[i]?=some (some t)):toT tl t (i+1)=toT tl t i++[i]:=by
 unfold toT
 rw[List.range_succ,List.filter_append,List.filter_cons,if_pos (decide_eq_true h)]
 rfl
theorem Zg9{tl}{t i}(h:¬tl[i]?=some (some t)):toT tl t (i+1)=toT tl t i:=by
 unfold toT
 rw[List.range_succ,List.filter_append,List.filter_cons,if_neg (fun z=>h (of_decide_eq_true z))]
 simp
theorem ZgA(tl)(t i):(toT tl t i).length<=i:=Nat.le_trans (List.length_filter_le _ _) (by grind)
theorem toT_mem{tl:List (Option Nat)}{t i k:Nat}:k∈toT tl t i↔k<i/\tl[k]?=some (some t):=by
 unfold toT
 rw[List.mem_filter,List.mem_range,decide_eq_true_eq]
def Am(es:List (Nat×Nat))(n:Nat)(S:List Nat):Prop:=∃(m:Nat)(tl:List (Option Nat)),IsMax (dl es n) m/\Td es n m es.length tl/\TdOk es m es.length tl/\S=toT tl 0 es.length
theorem Am.rise{es:List (Nat×Nat)}{n:Nat}{S:List Nat}(h:Am es n S):S.Pairwise (·<·)/\∀k∈S,k<es.length:=by
 obtain⟨m,tl,_,_,_,rfl⟩:=h
 exact⟨List.Pairwise.filter _ List.pairwise_lt_range,fun k hk=>(toT_mem.mp hk).1⟩
section
variable{P:Program}{w:World}{K:PySem.W.Frag}{mg:Str->Option Value}{base:Heap}{cM:Addr}
abbrev ZgH:Stmt:=top 60
abbrev ZlP:List Str:=["net","way","chosen","many","tints","tie"]
inductive Zfj(cM:Addr)(vs:List V)(H:Hp)(Q:VK)(_z3:XK):Prop
 |mk (p s n q ts es dx:_) (_:vs=[.ref p,.ref s]) (_:NetZ H p n q ts es) (_:H s=some (.ins cM dx [])) (_:Two es) (_:es.length<64) (_:∀H' r tl(m:Nat),Same H H'->H' r=some (.tup (tv tl))->IsMax (dl es n) m->Td es n m es.length tl->TdOk es m es.length tl->Q (.ref r) H')
theorem scTd2:Zr ZlP ["net","way"] (Zh ZgH):=⟨rfl,rfl,rfl,by decide+kernel,rfl,by decide+kernel,by decide+kernel⟩
theorem Ze0(N):(List.replicate N ([.non])).flatten=tv (List.replicate N none):=by
 induction N with
 |zero=>rfl
 |_ n a=>
  rw[List.replicate_succ,List.replicate_succ,List.flatten_cons,a]
  rfl
theorem ZiF{f}{fd}(F:FunD K "tinted" "tinted" ZgH f fd)(T:Bi mg)(FW:FnE P w K mg base "way_or_manifold" ["way"] 8 spWm)(FMo:FnE P w K mg base "most_of" ["net"] 8 spMo)(MA:MeE P w K mg base cM "asked" ["self","net"] 8 spAk)(MN:MeE P w K mg base cM "needed" ["self","most"] 8 spNd)(MP:MeE P w K mg base cM "put" ["self","net","tints","tie","many"] 8 (ZhH cM))(FBh:FnE P w K mg base "behind" ["net","tints","steps"] 8 spBh):
  FnOk P w K mg base CX0 9 f fd ["net","way"] (Zfj cM):=by
 refine F.ok scTd2 (fun vs H Q E h=>?_) (fun cdv A outer s H vs Q E hr h=>?_)
 ·obtain⟨p,s,n,q,t,c,dx,rfl,_⟩:=h
  rfl
 ·obtain⟨p,g,n,qa,t,c,dx,rfl,N,hs,hTw,h64,q⟩:=h
  refine⟨_,Zb (Zj (i:=2) scTd2.nd rfl (Or.inl rfl) (Zw FW hr (Zc (pv 1) Za)))
   (Zb (ZH (Zav MA hr (pv 2) (Zc (pv 0) Za)))
   (Zb (Zj (i:=3) scTd2.nd rfl (Or.inl rfl) (Zav MN hr (pv 2) (Zc (Zw FMo hr (Zc (pv 0) Za)) Za)))
   (Zb (Zj (i:=4) scTd2.nd rfl (Or.inl rfl) (Zp ZgS (Z5 (Zc ZM Za)) (Zn Zx rfl T.len YD (Zc (Zl Zo (pv 0) Ze (fun _ _=>rfl)) Za))))
   (Zb (ZL PassesOwn.never rfl (Yi rfl T.range (Zc (Zn Zx rfl T.len YD (Zc (Zl Zo (pv 0) Ze (fun _ _=>rfl)) Za)) Za)) (Zq (i:=5) scTd2.nd rfl (Or.inl rfl))
    (Zg (Zj (i:=4) scTd2.nd rfl (Or.inl rfl) (Zw FBh hr (Zc (pv 0) (Zc (pv 4) (Zc (Zav MP hr (pv 2) (Zc (pv 0) (Zc (pv 4) (Zc (pv 5) (Zc (pv 3) Za))))) Za)))))))
   (Zg (Zs (pv 4))))))),?_⟩
  have hlen:=N.len
  refine⟨_,rfl,g,rfl,_,rfl,g,dx,_,rfl,hs,rfl,_,rfl,g,p,n,qa,t,c,rfl,N,hTw,fun H0 s0=>⟨_,rfl,g,dx,_,rfl,s0 _ _ hs,rfl,_,rfl,p,n,qa,t,c,rfl,N.same s0,fun H1 M s1' d=>⟨g,M,rfl,(ZaA d).1,?_⟩⟩⟩
  have m0:=ZaA d
  obtain⟨m,rfl⟩:∃m:Nat,M=(m:Int):=⟨M.toNat,by omega⟩
  have hdm:∀x,x<n->dg c c.length x<=m:=fun x hx=>by have:=Zhb d hx;omega
  refine⟨rfl,fun t0 H2 s2 h2=>?_⟩
  have s12:=Same.trans (Same.trans s0 s1') s2
  refine⟨_,rfl,p,_,_,_,rfl,rfl,SqT.of (s12 _ _ N.e1),rfl,qa,_,rfl,.inr (SqT.of (s12 _ _ N.e2)),t0,t.length,_,rfl,rfl,h2,by omega,(fun z=>by cases z),(by show 1*t.length<=100000;omega),fun r0 H3 s3 h3=>?_⟩
  rw[hlen,Ze0]at h3
  have s13:=Same.trans s12 s3
  refine⟨_,rfl,p,_,_,_,rfl,rfl,SqT.of (s13 _ _ N.e1),rfl,qa,_,rfl,.inr (SqT.of (s13 _ _ N.e2)),_,rfl,by omega,by omega,Yz (lo:=0) (n:=((t.length:Nat):Int).toNat) (fun k σ G=>∃r tl v5,σ=[some (.ref p),some (.ref g),some (.ref g),some (.int (m:Int)),some (.ref r),v5]/\Same H G/\G r=some (.tup (tv tl))/\Td c n m k tl/\TdOk c m k tl)
   ⟨r0,_,_,rfl,s13,h3,.zero,.zero c m⟩ (fun k σ G hk xq1=>?_) (fun σ G xq1=>?_)⟩
  ·obtain⟨r,tl,v5,e,SG,o,j,b⟩:=xq1
   subst e
   have hke:k<c.length:=by omega
   obtain⟨tE,hw,hOk'⟩:=b.succ N.ok hTw hdm hke
   refine⟨_,rfl,_,rfl,_,rfl,g,dx,_,rfl,SG _ _ hs,rfl,_,rfl,_,rfl,_,rfl,_,rfl,g,p,r,n,qa,t,c,tl,k,m,dx,(by rw[Int.zero_add];rfl),SG _ _ hs,⟨N.same SG,o,b.len,hke,b.bare k (Nat.le_refl _) hke,b.cl,by omega,h64,hTw,m,hdm,Nat.le_refl _⟩,(fun M' h'=>by rw[h'.uniq d];exact Int.le_refl _),fun G1 l s4 _ hSh=>?_⟩
   have SG1:=Same.trans SG s4
   exact⟨p,r,l,n,qa,t,c,tl,tE,_,m,rfl,N.same SG1,s4 _ _ o,b.len,h64,hSh,Zfu,hw,by omega,Zft,fun G2 z s5 hz=>⟨z,tE,_,rfl,Same.trans SG1 s5,hz,.succ j hw,hOk'⟩⟩
  ·obtain⟨r,tl,v5,e,SG,o,j,b⟩:=xq1
   subst e
   rw[show((t.length:Nat):Int).toNat=c.length by omega]at j b
   exact⟨_,rfl,q G r tl m SG o d j b⟩
abbrev sTo:Stmt:=top 62
abbrev ZgB:Scope:=compScope (retE (stOf 62 0))
inductive spTo(vs:List V)(H:Hp)(Q:VK)(_z3:XK):Prop
 |mk (r:Addr) (tl:List (Option Nat)) (t:Nat) (_:vs=[.ref r,.int t]) (_:H r=some (.tup (tv tl))) (_:tl.length<=1000) (_:∀H' z,Same H H'->H' z=some (.tup (nl (toT tl t tl.length)))->Q (.ref z) H')
theorem Zk3:(["tie","had","tint"]:List Str).Nodup:=by decide+kernel
theorem Zl2:Zr ["tints","tint"] ["tints","tint"] (Zh sTo):=⟨rfl,rfl,rfl,by decide+kernel,rfl,by decide+kernel,by decide+kernel⟩
theorem ZkT{f}{cdv}{A}{outer}{s}{H}{E}:
  Blk (Yk CX0 P w K mg base ["tints","tint"] "ties_of_tint" (Zh sTo) f cdv A outer s H E).nox ZgB [("tint",s.heap.objs.size+1)] ["tie","had","tint"] [none,none,some 1]:=by
 refine⟨rfl,rfl,by decide+kernel,by decide+kernel,fun p d=>?_,fun y g e=>?_,⟨rfl,rfl,rfl⟩,trivial⟩
 ·rw[List.mem_singleton.mp d]
  rfl
 ·have _:y∈[((PySem.Str.ofString _),NameKind.local),(PySem.Str.ofString _,.local),(PySem.Str.ofString _,.local),(PySem.Str.ofString _,.free)]:=g
  grind
theorem ZjU{f}{fd}(F:Fun K "ties_of_tint" "ties_of_tint" sTo f fd)(T:Bi mg)(hen:mg "enumerate"=none):FnOk P w K mg base CX0 1 f fd ["tints","tint"] spTo:=by
 refine F.ok Zl2 (fun vs H Q E h=>?_) (fun cdv A _ s H vs Q E hr h=>?_)
 ·obtain⟨r,k,t,rfl,_⟩:=h
  rfl
 ·obtain⟨r,k,t,rfl,u,hl,q⟩:=h
  refine⟨_,Zg (Zs (Z1 Z7 rfl T.tuple Yl (Zc (Zf0 ZkT rfl rfl hen (Zc (pv 0) Za) (Z2 (Z9 0) ZY) rfl
   (fun C B s H=>Zcf (n:=2) rfl rfl (@Zy _ _ _ _ _ (Zq (i:=0) Zk3 rfl (Or.inl rfl) (hf:=Or.inr rfl)) (@Zy _ _ _ _ _ (Zq (i:=1) Zk3 rfl (Or.inl rfl) (hf:=Or.inr rfl)) Ya rfl) rfl) rfl rfl)
   (fun C B s H=>Y8 (Zm ZI (pv 1) (pv 2) rfl)) (fun C B s H=>pv 0)) Za))),_,rfl,r,_,rfl,SqT.of u,(by rw[Yp];omega),fun i g σ j=>Same H j/\g=nl (toT k t i)/\∃v G,σ=[v,G,some (.int t)],⟨Same.refl H,rfl,none,none,rfl⟩,fun i g σ j hi xq1=>?_,fun i y g σ j N xq1 R I m hT=>?_,fun g σ j xq1 l I m p=>?_⟩
  ·obtain⟨b,c,_⟩:=xq1
   subst c
   exact⟨SqT.of (b _ _ u),by rw[nl_len];exact ZgA _ _ _⟩
  ·obtain⟨b,c,v,G,M⟩:=xq1
   subst c M
   obtain⟨o,D,rfl⟩:=Jk N
   refine⟨R,_,rfl,SqT.of hT,rfl,_,_,rfl,_,_,rfl,rfl,_,rfl,_,rfl,(by cases o<;>rfl),_,rfl,ZF (fun d=>⟨_,rfl,Same.trans b m,?_,_,_,rfl⟩) (fun d=>⟨Same.trans b m,?_,_,_,rfl⟩)⟩
   ·have e:k[i]?=some (some t):=by
     cases o with
     |none=>cases of_decide_eq_true d
     |some x=>rw[D,show x=t by have:=V.int.inj (of_decide_eq_true d);omega]
    rw[Zia e,<-nl_app]
   ·have e:¬k[i]?=some (some t):=fun z=>d (by
     rw[D]at z
     rw[Option.some.inj z]
     exact decide_eq_true rfl)
    rw[Zg9 e]
  ·obtain⟨b,c,_⟩:=xq1
   subst c
   refine⟨l,_,rfl,.inl p,fun z L J O=>q L z (Same.trans (Same.trans b m) J) ?_⟩
   rw[O,Yp]
abbrev sAm:Stmt:=top 64
inductive spAm(vs:List V)(H:Hp)(Q:VK)(_z3:XK):Prop
 |mk (p n q ts es:_) (_:vs=[.ref p]) (_:NetZ H p n q ts es) (_:Two es) (_:es.length<64) (_:∀H' z S,Same H H'->H' z=some (.tup (nl S))->Am es n S->Q (.ref z) H')
theorem ZjB:Zr ["net"] ["net"] (Zh sAm):=⟨rfl,rfl,rfl,by decide+kernel,rfl,by decide+kernel,by decide+kernel⟩
theorem Zkx{f}{fd}(F:Fun K "all_meet" "all_meet" sAm f fd)(gM:mg "TwoSided"=some (.ref cM))(mM:Mk0 K cM)(FT:FnE P w K mg base "tinted" ["net","way"] 9 (Zfj cM))(FO:FnE P w K mg base "ties_of_tint" ["tints","tint"] 9 spTo):FnOk P w K mg base CX0 10 f fd ["net"] spAm:=by
 refine F.ok ZjB (fun I H Q E h=>?_) (fun _ A _ s H I Q E v h=>?_)
 ·obtain⟨p,n,q,t,y,rfl,_⟩:=h
  rfl
 ·obtain⟨p,n,C,t,y,rfl,N,d,b,q⟩:=h
  refine⟨_,Zg (Zs (Zw FO v (Zc (Zw FT v (Zc (pv 0) (Zc (Zan mM rfl gM) Za))) (Zc Ze Za)))),_,rfl,fun e g j i k=>?_⟩
  have x:Same H (upd (upd H g (.own e)) e (.ins cM g [])):=Same.trans (Zi i) (Zi (by rw[Zf (Ne.symm k)];exact j))
  refine⟨p,e,n,C,t,y,g,rfl,N.same x,Zd,d,b,fun _ r B m G o l c a=>⟨r,B,0,rfl,o,(by rw[a.len];omega),fun J z D u=>?_⟩⟩
  rw[a.len]at u
  exact q J z _ (Same.trans x (Same.trans G D)) u ⟨m,B,l,c,a,rfl⟩
end
def Zad(es:List (Nat×Nat))(x i:Nat):List Nat:=(List.range i).filter fun j=>atB (es.getD j (0,0)) x
theorem Zgr{es}{x i}(h:At (es.getD i (0,0)) x):Zad es x (i+1)=Zad es x i++[i]:=by
 unfold Zad
 rw[List.range_succ,List.filter_append,List.filter_cons,if_pos (atB_iff.mpr h)]
 rfl
theorem ZeS{es}{x i}(h:¬At (es.getD i (0,0)) x):Zad es x (i+1)=Zad es x i:=by
 unfold Zad
 rw[List.range_succ,List.filter_append,List.filter_cons,if_neg (fun z=>h (atB_iff.mp z))]
 simp
theorem ZeT(es)(x i):(Zad es x i).length<=i:=Nat.le_trans (List.length_filter_le _ _) (by grind)
theorem Zlf:bootBuiltins "all"=some (.builtin "all"):=by decide+kernel
section
variable{P:Program}{w:World}{K:PySem.W.Frag}{mg:Str->Option Value}{base:Heap}{cM:Addr}
abbrev sAt:Stmt:=top 3
abbrev Zh4:Scope:=compScope (retE (stOf 3 0))
inductive spAt(vs:List V)(H:Hp)(Q:VK)(_z3:XK):Prop
 |mk (p:Addr) (n:Nat) (q:Addr) (ts:List V) (es:List (Nat×Nat)) (x:Nat) (_:vs=[.ref p,.int x]) (_:NetZ H p n q ts es) (_:∀H' t,Same H H'->H' t=some (.tup (nl (Zad es x es.length)))->Q (.ref t) H')
theorem Zk7:(["tie","ends","point"]:List Str).Nodup:=by decide+kernel
theorem ZlB:Zr ["net","point"] ["net","point"] (Zh sAt):=⟨rfl,rfl,rfl,by decide+kernel,rfl,by decide+kernel,by decide+kernel⟩
theorem Zlb{f}{cdv}{A}{outer}{s}{H}{E}:
  Blk (Yk CX0 P w K mg base ["net","point"] "ties_at" (Zh sAt) f cdv A outer s H E).nox Zh4 [("point",s.heap.objs.size+1)] ["tie","ends","point"] [none,none,some 1]:=by
 refine⟨rfl,rfl,by decide+kernel,by decide+kernel,fun p d=>?_,fun y g e=>?_,⟨rfl,rfl,rfl⟩,trivial⟩
 ·rw[List.mem_singleton.mp d]
  rfl
 ·have _:y∈[((PySem.Str.ofString _),NameKind.local),(PySem.Str.ofString _,.local),(PySem.Str.ofString _,.local),(PySem.Str.ofString _,.free)]:=g
  grind
theorem Zkv{f}{fd}(F:Fun K "ties_at" "ties_at" sAt f fd)(T:Bi mg)(hen:mg "enumerate"=none):FnOk P w K mg base CX0 1 f fd ["net","point"] spAt:=by
 refine F.ok ZlB (fun vs H Q E h=>?_) (fun cdv A _ s H vs Q E hr h=>?_)
 ·obtain⟨p,n,q,u,g,x,rfl,_⟩:=h
  rfl
 ·obtain⟨p,n,qa,u,g,x,rfl,N,q⟩:=h
  refine⟨_,Zg (Zs (Z1 Z7 rfl T.tuple Yl (Zc (Zf0 Zlb rfl rfl hen (Zc (Zl Zo (pv 0) Ze (fun _ _=>rfl)) Za) (Z2 (YU (Z9 0) (Zar _)) ZY) rfl
   (fun C o s H=>Zcf (K:=K) (n:=2) rfl rfl (@Zy _ _ _ _ _ (Zq (i:=0) Zk7 rfl (Or.inl rfl) (hf:=Or.inr rfl)) (@Zy _ _ _ _ _ (Zq (i:=1) Zk7 rfl (Or.inl rfl) (hf:=Or.inr rfl)) Ya rfl) rfl) rfl rfl)
   (fun C o s H=>Y8 (Zm (Zf7 rfl) (pv 2) (pv 1) rfl)) (fun C o s H=>pv 0)) Za))),_,rfl,p,_,_,_,rfl,rfl,SqT.of N.e1,rfl,qa,u,rfl,SqT.of N.e2,(by have:=N.len;have:=N.l200;omega),fun i e σ j=>Same H j/\e=nl (Zad g x i)/\∃m r,σ=[m,r,some (.int x)],⟨Same.refl H,rfl,none,none,rfl⟩,fun i e σ j hi xq1=>?_,fun i y e σ j hx xq1 Tt B c v=>?_,fun e σ j xq1 l B c hl=>?_⟩
  ·obtain⟨b,d,_⟩:=xq1
   subst d
   exact⟨SqT.of (b _ _ N.e2),by rw[nl_len];exact ZeT _ _ _⟩
  ·obtain⟨b,d,m,r,D⟩:=xq1
   subst d D
   obtain⟨a,rfl,ha⟩:=N.tie i y hx
   refine⟨Tt,_,rfl,SqT.of v,rfl,_,_,rfl,_,_,rfl,rfl,_,rfl,_,rfl,a,_,rfl,.inr (SqT.of (c _ _ (b _ _ ha))),rfl,rfl,_,rfl,ZF (fun k=>⟨_,rfl,Same.trans b c,?_,_,_,rfl⟩) (fun k=>⟨Same.trans b c,?_,_,_,rfl⟩)⟩
   ·rw[Zgr ((ZdY x (g.getD i (0,0))).mp k),<-nl_app]
   ·rw[ZeS fun z=>k ((ZdY x (g.getD i (0,0))).mpr z)]
  ·obtain⟨b,d,_⟩:=xq1
   subst d
   refine⟨l,_,rfl,.inl hl,fun t H3 s3 ht=>q H3 t (Same.trans (Same.trans b c) s3) ?_⟩
   rw[ht,N.len]
abbrev sCr:Stmt:=top 5
inductive spCr(vs:List V)(H:Hp)(Q:VK)(_z3:XK):Prop
 |mk (p:Addr) (n:Nat) (q:Addr) (ts:List V) (es:List (Nat×Nat)) (x:Nat) (_:vs=[.ref p,.int x]) (_:NetZ H p n q ts es) (_:∀H',Same H H'->Q (.int (dg es es.length x)) H')
theorem Zl9:Zr ["net","point"] ["net","point"] (Zh sCr):=⟨rfl,rfl,rfl,by decide+kernel,rfl,by decide+kernel,by decide+kernel⟩
theorem Zkq{f}{fd}(F:Fun K "crowd" "crowd" sCr f fd)(T:Bi mg)(FA:FnE P w K mg base "ties_at" ["net","point"] 1 spAt):FnOk P w K mg base CX0 2 f fd ["net","point"] spCr:=by
 refine F.ok Zl9 (fun g H Q E h=>?_) (fun _ A _ s H g Q E i h=>?_)
 ·obtain⟨p,n,q,b,a,x,rfl,_⟩:=h
  rfl
 ·obtain⟨p,n,e,b,a,x,rfl,N,q⟩:=h
  refine⟨_,Zg (Zs (Zn Zx rfl T.len YD (Zc (Zw FA i (Zc (pv 0) (Zc (pv 1) Za))) Za))),_,rfl,_,rfl,p,n,e,b,a,x,rfl,N,fun j t c d=>⟨t,_,rfl,.inr (SqT.of d),?_⟩⟩
  rw[nl_len]
  exact q j c
abbrev sRd:Stmt:=top 63
abbrev nRd:List Str:=["net","most","tints"]
def rd1:Stmt->Expr
 | .If (.UnaryOp _ (.Call _ [e] _ _) _) _ _ _=>e
 |_=> .Constant .none 0 ⟨0,0,0,0⟩
abbrev ZlE:Scope:=compScope (rd1 (stOf 63 2))
abbrev ZlD:Scope:=compScope (retE (stOf 63 4))
theorem Zk5:(["point","most","net"]:List Str).Nodup:=by decide+kernel
theorem ZlJ:(["tint","tints"]:List Str).Nodup:=by decide+kernel
inductive spRd(vs:List V)(H:Hp)(Q:VK)(_z3:XK):Prop
 |mk (p:Addr) (n:Nat) (q:Addr) (ts:List V) (es:List (Nat×Nat)) (m:Nat) (_:vs=[.ref p]) (_:NetZ H p n q ts es) (_:Two es) (_:es.length<64) (_:IsMax (dl es n) m) (_:(∀x,x<n->dg es es.length x=m)) (_:∀H' z(rs:List Addr) tl,Same H H'->H' z=some (.tup (rs.map V.ref))->rs.length=m->TdOk es m es.length tl->(∀(t:Nat) r,rs[t]?=some r->H' r=some (.tup (nl (toT tl t es.length))))->Q (.ref z) H')
theorem scRd:Zr nRd ["net"] (Zh sRd):=⟨rfl,rfl,rfl,by decide+kernel,rfl,by decide+kernel,by decide+kernel⟩
theorem ZhV{f}{cdv}{A}{outer}{s}{H}{E}:
  Blk (Yk CX0 P w K mg base nRd "rounds" (Zh sRd) f cdv A outer s H E).nox ZlE [("net",s.heap.objs.size+1),("most",s.heap.objs.size+2)] ["point","most","net"] [none,some 1,some 0]:=by
 refine⟨rfl,rfl,by decide+kernel,by decide+kernel,fun p g=>?_,fun y h e=>?_,⟨rfl,rfl,rfl⟩,⟨rfl,rfl,rfl⟩,trivial⟩
 ·rcases List.mem_cons.mp g with rfl|g
  ·rfl
  ·rw[List.mem_singleton.mp g]
   rfl
 ·have d:y∈[((PySem.Str.ofString _),NameKind.local),(PySem.Str.ofString _,.local),(PySem.Str.ofString _,.globalImplicit),(PySem.Str.ofString _,.free),(PySem.Str.ofString _,.free)]:=h
  simp[List.mem_cons,List.not_mem_nil,or_false]at d
  rcases d with rfl|rfl|rfl|rfl|rfl<;>first|rfl|cases e
theorem ZkV{f}{cdv}{A}{outer}{s}{H}{E}:
  Blk (Yk CX0 P w K mg base nRd "rounds" (Zh sRd) f cdv A outer s H E).nox ZlD [("tints",s.heap.objs.size+3)] ["tint","tints"] [none,some 2]:=by
 refine⟨rfl,rfl,by decide+kernel,by decide+kernel,fun p c=>?_,fun y d e=>?_,⟨rfl,rfl,rfl⟩,trivial⟩
 ·rw[List.mem_singleton.mp c]
  rfl
 ·have _:y∈[((PySem.Str.ofString _),NameKind.local),(PySem.Str.ofString _,.local),(PySem.Str.ofString _,.globalImplicit),(PySem.Str.ofString _,.free)]:=d
  grind
theorem Zkb{f}{fd}(F:Fun K "rounds" "rounds" sRd f fd)(T:Bi mg)(hall:mg "all"=none)(gM:mg "TwoSided"=some (.ref cM))(mM:Mk0 K cM)(MA:MeE P w K mg base cM "asked" ["self","net"] 9 spAk)(FMo:FnE P w K mg base "most_of" ["net"] 9 spMo)(FC:FnE P w K mg base "crowd" ["net","point"] 9 spCr)
  (FT:FnE P w K mg base "tinted" ["net","way"] 9 (Zfj cM))(FO:FnE P w K mg base "ties_of_tint" ["tints","tint"] 9 spTo):FnOk P w K mg base CX0 10 f fd ["net"] spRd:=by
 refine F.ok scRd (fun vs H Q E h=>?_) (fun cdv A outer s H vs Q E hr h=>?_)
 ·obtain⟨p,n,q,ts,es,m,rfl,_⟩:=h
  rfl
 ·obtain⟨p,n,qa,ts,es,m,rfl,N,hTw,h64,hmx,hreg,q⟩:=h
  refine⟨_,Zb (ZH (Zav MA hr (Zan mM rfl gM) (Zc (pv 0) Za)))
   (Zb (Zj (i:=1) scRd.nd rfl (Or.inr rfl) (Zw FMo hr (Zc (pv 0) Za)))
   (Zb (Z0 (Yc (ZS (Zn (ZcZ rfl) rfl hall Zlf (Zc (ZaU ZhV rfl rfl T.range (Zc (Zl Zo (pv 0) Ze (fun _ _=>rfl)) Za) (Z2 (YU (Z9 0) (Zar _)) ZY) rfl (fun C fp s H=>Zq (i:=0) Zk5 rfl (Or.inl rfl)) (fun C fp s H=>JR)
     (fun C fp s H=>YH ZI (Zw FC hr (Zc (pv 2) (Zc (pv 0) Za))) (pv 1) (Zv _))) Za)))) Z8 Zt)
   (Zb (Zj (i:=2) scRd.nd rfl (Or.inr rfl) (Zw FT hr (Zc (pv 0) (Zc (Zan mM rfl gM) Za))))
   (Zg (Zs (Z1 Z7 rfl T.tuple Yl (Zc (ZaU ZkV rfl rfl T.range (Zc (pv 1) Za) (Z2 (Z9 1) ZY) rfl (fun C fp s H=>Zq (i:=0) ZlJ rfl (Or.inl rfl)) (fun C fp s H=>JR)
     (fun C fp s H=>Zw FO hr (Zc (pv 1) (Zc (pv 0) Za)))) Za))))))),?_⟩
  have h60:=N.n60
  have hmn:=ZaA hmx
  intro sw dx hsw hdx hne
  have s1:Same H (upd (upd H dx (.own sw)) sw (.ins cM dx [])):=Same.trans (Zi hdx) (Zi (by rw[Zf (Ne.symm hne)];exact hsw))
  refine⟨sw,dx,_,rfl,Zd,rfl,_,rfl,sw,p,n,qa,ts,es,rfl,N.same s1,hTw,fun H0 s0=>?_⟩
  have s10:=Same.trans s1 s0
  refine⟨_,rfl,p,n,qa,ts,es,rfl,N.same s10,fun H1 M s11 hMx=>?_⟩
  have e:=hMx.uniq hmx
  subst e
  have s2:=Same.trans s10 s11
  refine⟨_,rfl,p,_,_,_,rfl,rfl,SqT.of (s2 _ _ N.e1),rfl,n,rfl,by omega,fun i d σ G=>Same H1 G/\d=(List.replicate i true).map V.bl/\∃v0,σ=[v0,some (.int (m:Int)),some (.ref p)],⟨Same.refl _,rfl,none,rfl⟩,fun i d σ G hi⟨_,e,_⟩=>by rw[e,List.length_map,List.length_replicate];exact Nat.le_refl _,fun i d σ G hi xq1=>?_,fun d σ G xq1 l G2 sl hl=>?_⟩
  ·obtain⟨g,k,v0,e2⟩:=xq1
   subst k e2
   refine⟨_,rfl,_,rfl,p,n,qa,ts,es,i,(by rw[Int.zero_add];rfl),N.same (Same.trans s2 g),fun G2 sg2=>⟨_,rfl,rfl,Same.trans g sg2,?_,_,rfl⟩⟩
   rw[hreg i hi,decide_eq_true rfl,List.replicate_succ',List.map_append]
   rfl
  ·obtain⟨g,k,_⟩:=xq1
   subst k
   refine⟨l,List.replicate n true,rfl,SqL.of hl,_,rfl,?_⟩
   have ea:(List.replicate n true).all id=true:=by
    rw[List.all_eq_true]
    exact fun x hx=>List.eq_of_mem_replicate hx
   rw[ea]
   refine ZD ?_
   have s3:=Same.trans s2 (Same.trans g sl)
   refine⟨_,rfl,fun sw2 dx2 hsw2 hdx2 hne2=>?_⟩
   have s4:Same G2 (upd (upd G2 dx2 (.own sw2)) sw2 (.ins cM dx2 [])):=Same.trans (Zi hdx2) (Zi (by rw[Zf (Ne.symm hne2)];exact hsw2))
   refine⟨p,sw2,n,qa,ts,es,dx2,rfl,N.same (Same.trans s3 s4),Zd,hTw,h64,fun G5 r tl m' s5 hr5 hMx5 hTd hOk=>?_⟩
   have em:m'=m:=by have:=hMx5.uniq hmx;omega
   subst em
   refine⟨_,rfl,m',rfl,by omega,fun i d σ G=>Same G5 G/\(∃b:List Addr,d=b.map V.ref/\b.length=i/\∀(t:Nat) r,b[t]?=some r->G r=some (.tup (nl (toT tl t es.length))))/\∃v0,σ=[v0,some (.ref r)],⟨Same.refl _,⟨[],rfl,rfl,fun t r h=>by cases h⟩,none,rfl⟩,fun i d σ G hi⟨_,⟨b,e,e2,_⟩,_⟩=>by rw[e,List.length_map,e2];exact Nat.le_refl _,fun i d σ G hi xq1=>?_,fun d σ G xq1 l G6 s6 hl6=>?_⟩
   ·obtain⟨g,⟨b,k,e3,e4⟩,v0,e2⟩:=xq1
    subst k e2
    refine⟨_,rfl,_,rfl,r,tl,i,(by rw[Int.zero_add];rfl),g _ _ hr5,(by rw[hOk.len];omega),fun G7 z s7 hz=>⟨Same.trans g s7,⟨b++[z],by rw[List.map_append];rfl,by rw[List.length_append,e3];rfl,fun t r' j=>?_⟩,_,rfl⟩⟩
    rw[hOk.len]at hz
    by_cases c:t<b.length
    ·rw[List.getElem?_append_left c]at j
     exact s7 _ _ (e4 t r' j)
    ·rw[List.getElem?_append_right (by omega)]at j
     have et:t=i:=by
      have:=(List.getElem?_eq_some_iff.mp j).1
      rw[List.length_singleton]at this
      omega
     subst et
     rw[show t-b.length=0 by omega]at j
     cases j
     exact hz
   ·obtain⟨g,⟨b,k,e3,e4⟩,_⟩:=xq1
    subst k
    refine⟨l,_,rfl,.inl hl6,fun z G7 s7 hz=>?_⟩
    have s57:=Same.trans (Same.trans s3 (Same.trans s4 s5)) (Same.trans g (Same.trans s6 s7))
    exact q G7 z b tl s57 hz e3 hOk fun t r' j=>s7 _ _ (s6 _ _ (e4 t r' j))
end
end My
namespace My
theorem Jl{f g}{a}:∀{l},l.Nodup->a∈l->(∀t∈l,t≠a->f t=g t)->Zu f l+g a=Zu g l+f a
 |x::l,m,h,e=>by
  have c:=List.nodup_cons.mp m
  show f x+Zu f l+g a=g x+Zu g l+f a
  by_cases k:x=a
  ·subst k
   have _:∀(l),x ∉ l->(∀t∈l,t≠x->f t=g t)->Zu f l=Zu g l:=by
    intro l
    induction l with
    |nil=>intro _ _;rfl
    |_ y l n=>
     intro i j
     show f y+Zu f l=g y+Zu g l
     rw[j y (.head _) (fun z=>i (by grind)),n (fun z=>i (.tail _ z)) fun t d=>j t (.tail _ d)]
   grind
  ·have:=Jl c.2 ((List.mem_cons.mp h).resolve_left fun z=>k z.symm) fun t d=>e t (.tail _ d)
   grind
theorem Jn{f g}{a b}{l}(nd:l.Nodup)(ha:a∈l)(hb:b∈l)(hab:a≠b)(e:∀t∈l,t≠a->t≠b->f t=g t):Zu f l+g a+g b=Zu g l+f a+f b:=by
 have _:=Jl (f:=f) (g:=fun t=>if t=a then f t else g t) nd hb fun t d c=>by
  grind
 have _:=Jl (f:=fun t=>if t=a then f t else g t) nd ha fun t d c=>if_neg c
 grind
def sm(f:Nat->Nat)(m:Nat):Nat:=Zu f (List.range m)
theorem ZZ{f}{k}:∀{l},(∀t∈l,f t<=k)->Zu f l<=l.length*k
 |[],_=>Nat.zero_le _
 |x::l,h=>by
  have _:=h x (.head _)
  have _:=ZZ fun t a=>h t (.tail _ a)
  show f x+Zu f l<=(l.length+1)*k
  grind
theorem ZaL{f}{k}:∀{l},(∀t∈l,k<=f t)->l.length*k<=Zu f l
 |[],_=>by grind
 |x::l,h=>by
  have _:=h x (.head _)
  have _:=ZaL fun t a=>h t (.tail _ a)
  show(l.length+1)*k<=f x+Zu f l
  grind
theorem ZaK{f}{k b}:∀{l},(∀t∈l,f t<=k)->b∈l->f b<k->Zu f l<l.length*k
 |x::l,h,g,d=>by
  have _:=h x (.head _)
  have _:=ZZ fun t c=>h t (.tail _ c)
  show f x+Zu f l<(l.length+1)*k
  rw[Nat.add_mul]
  rcases List.mem_cons.mp g with e|e
  ·subst e;omega
  ·have:=ZaK (fun t c=>h t (.tail _ c)) e d
   omega
theorem JL{f g}:∀{l},(∀t∈l,f t<=g t)->Zu f l<=Zu g l
 |[],_=>Nat.le_refl _
 |x::l,h=>by
  have _:=h x (.head _)
  have _:=JL fun t a=>h t (.tail _ a)
  show f x+Zu f l<=g x+Zu g l
  omega
def mu(c:Nat->Nat)(m q:Nat):Nat:=max (sm (fun t=>c t-(q+1)) m) (sm (fun t=>q-c t) m)
theorem Zha{c c'}{m q a b}(ha:a<m)(hb:b<m)(hab:a≠b)(ea:c' a+1=c a)(eb:c' b=c b+1)(eo:∀t,t<m->t≠a->t≠b->c' t=c t) (hmax:∀t,t<m->c t<=c a) (hmin:∀t,t<m->c b<=c t) (hg:c b+2<=c a)
  (h1:m*q<=sm c m) (h2:sm c m<m*(q+1)):sm c' m=sm c m/\mu c' m q+1<=mu c m q:=by
 have h:=List.mem_range.mpr ha
 have g:=List.mem_range.mpr hb
 have x:=Jn List.nodup_range h g hab fun t d=>eo t (List.mem_range.mp d)
 have y:=Jn (f:=fun t=>c' t-(q+1)) List.nodup_range h g hab fun t d x y=>by rw[eo t (List.mem_range.mp d) x y]
 have w:=Jn (f:=fun t=>q-c' t) List.nodup_range h g hab fun t d x y=>by rw[eo t (List.mem_range.mp d) x y]
 have p:c b<=q:=Nat.le_of_not_lt fun z=>by
  have:=ZaL (f:=c) (k:=q+1) fun t d=>by have:=hmin t (List.mem_range.mp d);omega
  rw[List.length_range]at this
  exact absurd this (Nat.not_le_of_lt h2)
 have r:c b<q->q<c a:=fun z=>Nat.lt_of_not_le fun y=>by
  have:=ZaK (f:=c) (k:=q) (l:=List.range m) (fun t d=>by have:=hmax t (List.mem_range.mp d);omega) g z
  rw[List.length_range]at this
  exact absurd h1 (Nat.not_le_of_lt this)
 have s:q<=c b->Zu (fun t=>q-c t) (List.range m)=0:=fun z=>by
  have:=ZZ (f:=fun t=>q-c t) (k:=0) (l:=List.range m) fun t d=>by have:=hmin t (List.mem_range.mp d);omega
  omega
 have u:c a<=q+1->Zu (fun t=>c t-(q+1)) (List.range m)=0:=fun z=>by
  have:=ZZ (f:=fun t=>c t-(q+1)) (k:=0) (l:=List.range m) fun t d=>by have:=hmax t (List.mem_range.mp d);omega
  omega
 clear h g hmax hmin h1 h2 eo ha hb hab
 unfold mu sm at*
 refine⟨by omega,?_⟩
 clear x
 generalize Zu (fun t=>c' t-(q+1)) (List.range m)=A at*
 generalize Zu (fun t=>q-c' t) (List.range m)=B at*
 generalize Zu (fun t=>c t-(q+1)) (List.range m)=C at*
 generalize Zu (fun t=>q-c t) (List.range m)=D at*
 rw[eb]at y w
 generalize c' a=i at*
 generalize c b=j at*
 generalize c a=k at*;subst ea
 rw[Nat.sub_eq_zero_of_le (Nat.le_succ_of_le p),Nat.sub_eq_zero_of_le (Nat.succ_le_succ p)]at y
 rcases Nat.lt_or_ge j q with z|z
 ·have r:=r z
  rw[Nat.sub_eq_zero_of_le (Nat.le_of_lt r),Nat.sub_eq_zero_of_le (Nat.le_of_lt_succ r)]at w
  have b:B+1=D:=by clear y u eb;omega
  rcases Nat.lt_or_ge q i with v|v
  ·have a:A+1=C:=by clear w b u eb;omega
   rw[<-a,<-b,Nat.succ_max_succ];exact Nat.le_refl _
  ·rw[u (Nat.succ_le_succ v),Nat.sub_eq_zero_of_le (Nat.succ_le_succ v),Nat.sub_eq_zero_of_le (Nat.le_succ_of_le v)]at y
   cases y
   rw[<-b,Nat.zero_max]
   exact Nat.le_max_right ..
 ·rw[s z,Nat.sub_eq_zero_of_le (Nat.le_trans z (Nat.le_of_succ_le_succ (Nat.le_of_succ_le hg))),Nat.sub_eq_zero_of_le z,Nat.sub_eq_zero_of_le (Nat.le_trans z (Nat.le_of_succ_le_succ (Nat.le_of_succ_le (Nat.le_succ_of_le hg)))),Nat.sub_eq_zero_of_le (Nat.le_succ_of_le z)]at w
  cases w
  have a:A+1=C:=by clear u eb;omega
  rw[Nat.max_zero,a]
  exact Nat.le_max_left ..
theorem Zk8{c}{m q}(h1:m*q<=sm c m):mu c m q<=sm c m:=by
 have _:sm (fun t=>c t-(q+1)) m<=sm c m:=JL fun t _=>Nat.sub_le _ _
 have _:sm (fun t=>q-c t) m<=m*q:=by
  have:=ZZ (f:=fun t=>q-c t) (l:=List.range m) fun t _=>Nat.sub_le _ _
  rw[List.length_range]at this
  exact this
 unfold mu
 omega
theorem Zio(m)(o):sm (fun t=>if o=some t then 1 else 0) m<=1:=by
 cases o with
 |none=>
  have:=ZZ (f:=fun t=>if none=some t then 1 else 0) (k:=0) (l:=List.range m) fun t _=>by grind
  unfold sm
  omega
 |some y=>
  by_cases h:y∈List.range m
  ·have:=YF List.nodup_range h
   have e:(fun t=>if(some y)=some t then 1 else 0)=fun x=>if y=x then 1 else 0:=by
    grind
   unfold sm
   simp_all
  ·have:=ZZ (f:=fun t=>if(some y)=some t then 1 else 0) (l:=List.range m) fun t _=>by
    rw[if_neg fun z=>h (by grind)]
    exact Nat.le_refl _
   unfold sm
   omega
theorem Zfl(m):∀tl:List _,sm (cnt tl) m<=tl.length
 |[]=>by
  have:=ZZ (f:=cnt []) (l:=List.range m) fun t _=>Nat.le_refl _
  unfold sm
  omega
 |o::tl=>by
  have _:=Zfl m tl
  have _:=Zio m o
  have e:sm (cnt (o::tl)) m=sm (cnt tl) m+sm (fun t=>if o=some t then 1 else 0) m:=by
   unfold sm
   rw[<-YG]
   congr 1
   funext t
   show List.count _ _=List.count _ tl+_
   grind
  grind
open Classical in
noncomputable def nm(D:Nat->Prop):Nat->Nat
 |0=>0
 |L+1=>nm D L+if D L then 1 else 0
theorem Zay{D}{L}(h:D L):nm D (L+1)=nm D L+1:=by unfold nm;rw[if_pos h];cases L<;>rfl
theorem YM{D}{L}(h:¬D L):nm D (L+1)=nm D L:=by show nm D L+(@ite _ _ (Classical.propDecidable _) 1 0)=nm D L;rw[if_neg h];rfl
theorem Ys{D E}:∀{L},(∀k,k<L->(D k↔E k))->nm D L=nm E L
 |0,_=>rfl
 |L+1,h=>by
  have a:=Ys fun k b=>h k (Nat.lt_succ_of_lt b)
  by_cases z:D L
  ·rw[Zay z,Zay ((h L (by omega)).mp z),a]
  ·rw[YM z,YM fun y=>z ((h L (by omega)).mpr y),a]
theorem ZgY:∀(L),nm (fun _=>False) L=0
 |0=>rfl
 |L+1=>by rw[YM fun z=>z,ZgY L]
theorem ZfE{D E}(h:∀k,D k->¬E k):∀(L),nm (fun k=>D k\/E k) L=nm D L+nm E L
 |0=>rfl
 |L+1=>by
  have _:=ZfE h L
  by_cases z:D L
  ·rw[Zay (Or.inl z),Zay z,YM (h L z)];omega
  ·by_cases y:E L
   ·rw[Zay (Or.inr y),YM z,Zay y];omega
   ·rw[YM fun x=>x.elim z y,YM z,YM y];omega
theorem Zgj{tl:List _}(t):∀{i},i<=tl.length->cnt (tl.take i) t=nm (fun k=>tl[k]?=some (some t)) i
 |0,_=>rfl
 |i+1,h=>by
  obtain⟨o,a⟩:∃o,tl[i]?=some o:=⟨_,List.getElem?_eq_getElem (by omega)⟩
  rw[Zbp a,Zgj t (by omega)]
  by_cases z:o=some t
  ·rw[if_pos z,Zay (by rw[a,z])]
  ·rw[if_neg z,YM fun y=>z (by grind)]
   rfl
theorem ZaC(tl)(t):cnt tl t=nm (fun k=>tl[k]?=some (some t)) tl.length:=by
 rw[<-Zgj t (Nat.le_refl _),List.take_length]
def Jb(tl:List (Option Nat))(S:List Nat)(t:Nat):Nat:=(S.filter fun k=>decide (tl[k]?=some (some t))).length
theorem ZbG(D:Nat->Prop)[DecidablePred D]:∀L,nm D L=((List.range L).filter fun k=>decide (D k)).length
 |0=>rfl
 |L+1=>by
  rw[List.range_succ,List.filter_append,List.length_append,<-ZbG D L]
  by_cases z:D L
  ·rw[Zay z,List.filter_cons,if_pos (decide_eq_true z)];rfl
  ·rw[YM z,List.filter_cons,if_neg fun y=>z (of_decide_eq_true y)];rfl
theorem Jy{tl}{S}{L}(nd:S.Nodup)(h:∀k∈S,k<L) (t):Jb tl S t=nm (fun k=>k∈S/\tl[k]?=some (some t)) L:=by
 rw[ZbG]
 refine((List.perm_ext_iff_of_nodup (nd.filter _) (List.nodup_range.filter _)).mpr fun k=>?_).length_eq
 simp_all
section
variable{es:List (Nat×Nat)}{tl:List (Option Nat)}{u v p n:Nat}{S:List Nat}
theorem RP.cat{x y}(a:RP es tl u v p x)(b:RP es tl u v x y):RP es tl u v p y:=by
 induction b with
 |start=>exact a
 |step _ g f e d h=>exact .step h g f e d
theorem RP.back{x}(a:RP es tl u v p x):RP es tl u v x p:=by
 induction a with
 |start=>exact .start
 |step _ g f e d h=>exact RP.cat (.step .start g f d e) h
theorem ZgK{q k j}(h1:RT es tl u v p k)(h2:RT es tl u v q k)(h:RT es tl u v p j):RT es tl u v q j:=by
 obtain⟨a,b,x,c,d⟩:=h1
 obtain⟨_,_,y,e,f⟩:=h2
 obtain⟨m,i,z,l,g⟩:=h
 exact⟨m,i,z,RP.cat (.step e a b f d) (RP.cat c.back l),g⟩
def Sur(es:List (Nat×Nat))(tl:List (Option Nat))(u v p:Nat):Prop:=nm (fun k=>RT es tl u v p k/\tl[k]?=some (some v)) es.length<nm (fun k=>RT es tl u v p k/\tl[k]?=some (some u)) es.length
theorem ZdM(hS:S.Pairwise (·<·))(hR:∀k,k∈S↔RT es tl u v p k):Sur es tl u v p↔Jb tl S v<Jb tl S u:=by
 have b:=hS.imp fun z=>Nat.ne_of_lt z
 have a:=fun k c=>((hR k).mp c).1
 rw[Jy b a,Jy b a]
 unfold Sur
 simp_all
theorem Zii(ok:∀e∈es,e.1<n/\e.2<n/\e.1≠e.2) (hl:tl.length=es.length) (h:cnt tl v<cnt tl u):∃p,p<n/\Sur es tl u v p:=by
 apply Classical.byContradiction
 intro i
 have l:∀q,q<=n->nm (fun k=>(∃p,p<q/\RT es tl u v p k)/\tl[k]?=some (some u)) es.length<=nm (fun k=>(∃p,p<q/\RT es tl u v p k)/\tl[k]?=some (some v)) es.length:=by
  intro q
  induction q with
  |zero=>
   grind
  |succ q ih=>
   intro hq
   by_cases hm:∃k,RT es tl u v q k/\∃p,p<q/\RT es tl u v p k
   ·obtain⟨k0,r1,p0,j,r2⟩:=hm
    have e:∀t,nm (fun k=>(∃p,p<q+1/\RT es tl u v p k)/\tl[k]?=some _) _=nm (fun k=>(∃p,p<q/\RT es tl u v p k)/\tl[k]?=some (some t)) es.length:=fun t=>Ys fun k _=>and_congr_left' ⟨fun⟨p,z,r⟩=>by
      by_cases y:p=q
      ·subst y;exact⟨p0,j,ZgK r1 r2 r⟩
      ·grind,fun⟨p,z,r⟩=>⟨p,by omega,r⟩⟩
    rw[e,e]
    exact(ih (by omega))
   ·have e:∀t,nm (fun k=>(∃p,p<q+1/\RT es tl u v p k)/\tl[k]?=some _) _=nm (fun k=>(∃p,p<q/\RT es tl u v p k)/\tl[k]?=some _) _+nm (fun k=>RT es tl u v q k/\tl[k]?=some _) es.length:=fun t=>by
     rw[<-ZfE (E:=fun k=>RT es tl u v q k/\tl[k]?=some (some t)) fun k a b=>hm ⟨k,b.1,a.1⟩]
     refine Ys fun k _=>⟨fun xq1=>?_,fun z=>z.elim (fun⟨⟨p,z,r⟩,y⟩=>⟨⟨p,by omega,r⟩,y⟩) fun⟨r,y⟩=>⟨⟨q,by omega,r⟩,y⟩⟩
     obtain⟨⟨p,z,r⟩,y⟩:=xq1
     by_cases x:p=q
     ·grind
     ·grind
    rw[e,e]
    have:=(fun p hp=>Nat.le_of_not_lt fun z=>i ⟨p,hp,z⟩) q (by omega)
    omega
 have f:∀t,t=u\/t=v->nm (fun k=>(∃p,p<n/\RT es tl u v p k)/\tl[k]?=some (some t)) _=cnt tl t:=fun t ht=>by
  rw[ZaC,hl]
  refine Ys fun k hk=>⟨fun z=>z.2,fun z=>⟨⟨(es.getD k (0,0)).1,(ok _ (getD_mem hk)).1,hk,?_,_,.start,.inl rfl⟩,z⟩⟩
  rcases ht with rfl|rfl
  ·exact .inl z
  ·exact .inr z
 have:=l n (Nat.le_refl _)
 rw[f u (.inl rfl),f v (.inr rfl)]at this
 omega
theorem Zc5(huv:u≠v):∀{S},(∀k∈S,InP tl u v k)->Jb tl S u+Jb tl S v=S.length
 |[],_=>rfl
 |k::S,h=>by
  have b:=Zc5 huv fun j a=>h j (.tail _ a)
  unfold Jb at b⊢
  rw[List.filter_cons,List.filter_cons,List.length_cons]
  rcases h k (.head _)with e|e
  ·rw[if_pos (decide_eq_true e),if_neg fun z=>huv (Option.some.inj (Option.some.inj (e.symm.trans (of_decide_eq_true z)))),List.length_cons]
   omega
  ·rw[if_neg fun z=>huv (Option.some.inj (Option.some.inj (e.symm.trans (of_decide_eq_true z)))).symm,if_pos (decide_eq_true e),List.length_cons]
   omega
theorem Zey(huv:u≠v)(ok:∀e∈es,e.1<n/\e.2<n/\e.1≠e.2) (hp:p<n) (hC:CleanTo es tl es.length) (hS:S.Pairwise (·<·)) (hR:∀k,k∈S↔RT es tl u v p k):Jb tl S u<=Jb tl S v+1:=by
 obtain⟨i,y,D,_,_⟩:=ZeK ok hp hS hR
 have _:=Zc5 huv fun k h=>((hR k).mp h).2.1
 have _:=Zcb y (l:=S.filter fun k=>decide (tl[k]?=some (some u))) fun k h=>D k (List.mem_filter.mp h).1
 have _:=ZZ (f:=deg es (S.filter fun k=>decide (tl[k]?=some (some u)))) (l:=i) fun x _=>by
  rw[Jh x fun k h=>ZfA ok k ((hR k).mp (List.mem_filter.mp h).1).1]
  refine two_le (((hS.imp fun z=>Nat.ne_of_lt z).filter _).filter _) fun a m b q=>?_
  obtain⟨F,E⟩:=List.mem_filter.mp m
  obtain⟨C,s⟩:=List.mem_filter.mp q
  obtain⟨o,r⟩:=List.mem_filter.mp F
  obtain⟨A,t⟩:=List.mem_filter.mp C
  have w:=of_decide_eq_true E
  have B:=of_decide_eq_true s
  exact ZaH hC ((hR a).mp o).1 ((hR b).mp A).1 (of_decide_eq_true r) (of_decide_eq_true t) w B
 unfold Jb at*
 omega
theorem Zhy(huv:u≠v)(hl:tl.length=es.length)(hS:S.Pairwise (·<·))(hR:∀k,k∈S↔RT es tl u v p k):
  cnt (trn tl u v S) u+Jb tl S u=cnt tl u+Jb tl S v/\cnt (trn tl u v S) v+Jb tl S v=cnt tl v+Jb tl S u/\∀t,t≠u->t≠v->cnt (trn tl u v S) t=cnt tl t:=by
 have i:=hS.imp fun z=>Nat.ne_of_lt z
 have f:=fun k l=>((hR k).mp l).1
 have h:=fun k l=>((hR k).mp l).2.1
 have d:∀(r) t,r.length=es.length->cnt r t=nm (fun k=>k ∉ S/\r[k]?=some _) _+nm (fun k=>k∈S/\r[k]?=some _) _:=fun r t w=>by
  rw[ZaC,w,<-ZfE fun k a b=>a.1 b.1]
  refine Ys fun k _=>⟨fun z=>?_,fun z=>z.elim (fun z=>z.2) fun z=>z.2⟩
  by_cases y:k∈S
  ·grind
  ·grind
 have j:(trn tl u v S).length=es.length:=by rw[JK];exact hl
 have m:∀t,nm (fun k=>k ∉ S/\(trn tl u v S)[k]?=some _) _=nm (fun k=>k ∉ S/\tl[k]?=some (some t)) es.length:=fun t=>Ys fun k _=>and_congr_right fun z=>by rw[Y0 z]
 have x:nm (fun k=>k∈S/\(trn tl u v S)[k]?=some _) _=nm (fun k=>k∈S/\tl[k]?=some _) es.length:=Ys fun k _=>and_congr_right fun z=>by
  rw[YZ z (h k z)]
  rcases h k z with e|e
  ·rw[ZaJ e,e]
   exact⟨fun y=>absurd (Option.some.inj (Option.some.inj y)).symm huv,fun y=>absurd (Option.some.inj (Option.some.inj y)) huv⟩
  ·rw[ZaI huv e,e]
   exact⟨fun _=>rfl,fun _=>rfl⟩
 have q:nm (fun k=>k∈S/\(trn tl u v S)[k]?=some _) _=nm (fun k=>k∈S/\tl[k]?=some _) es.length:=Ys fun k _=>and_congr_right fun z=>by
  rw[YZ z (h k z)]
  rcases h k z with e|e
  ·rw[ZaJ e,e]
   exact⟨fun _=>rfl,fun _=>rfl⟩
  ·rw[ZaI huv e,e]
   exact⟨fun y=>absurd (Option.some.inj (Option.some.inj y)) huv,fun y=>absurd (Option.some.inj (Option.some.inj y)).symm huv⟩
 refine⟨?_,?_,fun t o n=>?_⟩
 ·rw[d _ u j,d _ u hl,m,x,Jy i f,Jy i f];omega
 ·rw[d _ v j,d _ v hl,m,q,Jy i f,Jy i f];omega
 ·rw[ZaC,ZaC,j,hl]
  exact Ys fun k _=>Zbj huv h o n
end
def IsFl(c:Nat->Nat)(m a:Nat):Prop:=a<m/\(∀t,t<m->c t<=c a)/\∀t,t<a->c t<c a
def IsEm(c:Nat->Nat)(m b:Nat):Prop:=b<m/\(∀t,t<m->c b<=c t)/\∀t,t<b->c b<c t
theorem IsFl.uniq{c}{m a a'}(h:IsFl c m a)(h':IsFl c m a'):a=a':=by
 obtain⟨x,y,z⟩:=h
 obtain⟨_,_,_⟩:=h'
 grind
theorem IsEm.uniq{c}{m a a'}(h:IsEm c m a)(h':IsEm c m a'):a=a':=by
 obtain⟨x,y,z⟩:=h
 obtain⟨d,b,f⟩:=h'
 rcases Nat.lt_trichotomy a a' with e|e|e
 ·have:=f a e;have:=y a' d;omega
 ·exact e
 ·have:=z a' e;have:=b a x;omega
def ZbZ(es:List (Nat×Nat))(n m:Nat)(tl:List (Option Nat)):Option Stp->Prop
 |none=>∃a b,IsFl (cnt tl) m a/\IsEm (cnt tl) m b/\cnt tl a<cnt tl b+2
 |some s=>∃a b p,s= .turn p a b/\IsFl (cnt tl) m a/\IsEm (cnt tl) m b/\cnt tl b+2<=cnt tl a/\p<n/\Sur es tl a b p/\∀p',p'<p->¬Sur es tl a b p'
inductive Evn(es:List (Nat×Nat))(n m:Nat):List (Option Nat)->List Stp->List (Option Nat)->Prop
 |stop {tl:List (Option Nat)}:ZbZ es n m tl none->Evn es n m tl [] tl
 |go {tl t1 t2:List (Option Nat)} {s:Stp} {sl:List Stp}:ZbZ es n m tl (some s)->Did es tl s t1->Evn es n m t1 sl t2->Evn es n m tl (s::sl) t2
structure Tg(es:List (Nat×Nat))(m:Nat)(tl:List (Option Nat)):Prop where
 len:tl.length=es.length
 cl:CleanTo es tl es.length
 lt:∀t,some t∈tl->t<m
theorem Zhq{es}{n m q}{tl t1}{s}(ok:∀e∈es,e.1<n/\e.2<n/\e.1≠e.2) (T:Tg es m tl) (h:ZbZ es n m tl (some s)) (hd:Did es tl s t1):
  Tg es m t1/\StOk n es.length m s/\(∀j:Nat,t1[j]?=some none↔tl[j]?=some none)/\((m*q<=sm (cnt tl) m)->(sm (cnt tl) m<m*(q+1))->sm (cnt t1) m=sm (cnt tl) m/\mu (cnt t1) m q+1<=mu (cnt tl) m q):=by
 obtain⟨a,b,p,rfl,f,g,C,l,E,_⟩:=h
 obtain⟨S,i,d,rfl⟩:=hd
 have c:a≠b:=fun z=>by subst z;omega
 have o:=fun k D=>((d k).mp D).2.1
 have _:=(ZdM i d).mp E
 have _:=Zey c ok l T.cl i d
 obtain⟨_,_,B⟩:=Zhy c T.len i d
 refine⟨⟨by rw[JK];exact T.len,Zb8 c d T.cl,fun t G=>?_⟩,⟨l,f.1,g.1,c⟩,fun j=>Zda o,fun A F=>?_⟩
 ·obtain⟨j,w⟩:=List.getElem?_of_mem G
  by_cases v:t=a
  ·rw[v];exact f.1
  ·by_cases u:t=b
   ·rw[u];exact g.1
   ·exact T.lt t (List.mem_of_getElem? ((Zbj c o v u).mp w))
 ·exact Zha f.1 g.1 c (by omega) (by omega) (fun t _ x y=>B t x y) f.2.1 g.2.1 C A F
end My
namespace L2
open PySem PySem.Spec PyProof.Rows
def Fz(H:Hp)(a:Addr)(xs:List V):Prop:=∃o:Obj,o.dict=none/\H a=some (.frz o (.tup xs))
theorem Fz.same{H H':Hp}{a:Addr}{xs:List V}(h:Fz H a xs)(s:Same H H'):Fz H' a xs:=let⟨o,a,b⟩:=h;⟨o,a,s _ _ b⟩
theorem Fz.sq{K:PySem.W.Frag}{H:Hp}{a:Addr}{xs:List V}(h:Fz H a xs):SqT K H a xs:=let⟨o,_,b⟩:=h;.inl (.inr ⟨o,b⟩)
section
variable{X:Cx}
theorem Zb3:CallR X (.type "tuple") (fun xs H Q=>∃p ys,xs=[.ref p]/\SqL X.K H p ys/\∀l H',Same H H'->Fz H' l ys->Q (.ref l) H'):=by
 intro pins s σ H xs us Q I r h
 obtain⟨p,ys,rfl,hq,q⟩:=h
 obtain⟨u,rfl,rx⟩:=vals1 r
 cases rx
 obtain⟨its,r',pl,hz⟩:=I.list hq
 have hlen:=r'.length
 refine call_tuple_list pl.isList (fun h' kp=>?_) (by simp only[List.size_toArray]<;>omega)
 have I1:Inv X pins σ H {s with heap:=h'}:=I.kept (t':=s.toks) kp
 have I2:Inv X pins σ (upd H h'.objs.size (.frz {cls:= .type "tuple",data:= .seq its.toArray} (.tup ys))) {s with heap:=h'.push {cls:= .type "tuple",data:= .seq its.toArray}}:=
  I1.laid (t':=s.toks) (fun b o e=>Heap.get?_push_of_some _ e) (Nat.le_refl _) (show ObjOk X.prog X.w _ _ _ (.frz {cls:= .type "tuple",data:= .seq its.toArray} (.tup ys))from⟨Heap.get?_push_size _ rfl,hz,its,r',IsTup.new _ _⟩)
 exact⟨.ref h'.objs.size,_,I2,rfl,q _ _ (Zz (I1.hok.fresh (Nat.le_refl _))) ⟨_,rfl,Zd⟩⟩
def Zlv(r:V->List V->Hp->VK->Prop)(to:TE)(t:TA):TE:=fun σ H Q=>to σ H fun x H1=>(∃p xs,x= .ref p/\Fz H1 p xs)/\t σ H1 fun xs H2=>r x xs H2 Q
theorem Zf4{o e:Expr}{es:List Expr}{to:TE}{t:TA}{name:Str}{apos cpos:Pos}{id:String}{r:V->List V->Hp->VK->Prop}(slot:Slot "tuple" name id)(hty:typeOf (.builtin id)=pure (.type "method_descriptor"))(hm:MtR X id r)(ho:PE X o to)(ha:PA X (e::es) t)
  (hbase:attributeBase o name X.env (eval o X.env)=eval o X.env:=by rfl)
  (hfew:((backTo cpos (starEach (e::es) X.env)).all (fun x=> !x.1)&&(backToKw cpos (keywordEach [] X.env)).all (fun x=>x.1.isSome)
   &&decide ((e::es).length+([]:List Keyword).length+(if([]:List Keyword).isEmpty then 0 else 1)<30))=true:=by rfl)
  (hline:(apos.endLine==cpos.line)=true:=by rfl) (hs:starEach (e::es) X.env=(false,eval e X.env)::starEach es X.env:=by rfl) (hplain:(backTo cpos (starEach es X.env)).any (·.1)=false:=by rfl):
  PE X (.Call (.Attribute o name apos) (e::es) [] cpos) (Zlv r to t):=by
 intro pins s σ H Q I h
 refine wpAny_Call_method_late hbase hfew hline rfl (thn (ho pins s σ H _ I h) fun v s1 xq1=>?_)
 obtain⟨x,H1,I1,r1,⟨p,xs,e,ob,hd,hp⟩,q1⟩:=xq1
 subst e
 cases r1
 obtain⟨ge,_,its,_,o',e',hc,_⟩:=(show ObjOk X.prog X.w H1 s1.heap p (.frz ob (.tup xs))from I1.hok p _ hp)
 refine⟨"tuple",id,PySem.F.plainAttrs_tuple,slot,hty,⟨o',e',hc⟩,fun a e=>by cases e;exact⟨ob,ge,hd⟩,?_⟩
 have hA:=ha cpos pins s1 σ H1 _ I1 q1
 rw[hs]at hA⊢
 refine Calls.callWith_builtin (by show(false||(backTo cpos (starEach es X.env)).any (·.1))=false;rw[hplain]<;>rfl) (Calls.evalArgs_plain ?_)
 exact thn hA fun us s2⟨vs,H2,I2,r2,q2⟩=>hm pins s2 σ H2 (.ref p) vs (.ref p) us Q I2 rfl r2 q2
end
end L2
namespace My
open PySem L2
theorem Zez(N):(List.replicate N ([.int 0]:List V)).flatten=lv (fun _=>0) N:=by
 induction N with
 |zero=>rfl
 |_ n a=>
  rw[List.replicate_succ',List.flatten_append,a]
  unfold lv
  rw[List.range_succ,List.map_append]
  rfl
def Zhx(tl:List (Option Nat))(m:Nat):List Nat:=(List.range m).map (cnt tl)
section
variable{P:Program}{w:World}{K:PySem.W.Frag}{mg:Str->Option Value}{base:Heap}
abbrev sCo:Stmt:=top 32
abbrev nCo:List Str:=["tints","many","numbers","tint"]
inductive spCo(vs:List V)(H:Hp)(Q:VK)(_z3:XK):Prop
 |mk (r:Addr) (tl:List (Option Nat)) (m:Nat) (_:vs=[.ref r,.int m]) (_:H r=some (.tup (tv tl))) (_:m<=1000) (_:∀H' t,Same H H'->Fz H' t (nl (Zhx tl m))->Q (.ref t) H')
theorem scCo:Zr nCo ["tints","many"] (Zh sCo):=⟨rfl,rfl,rfl,by decide+kernel,rfl,by decide+kernel,by decide+kernel⟩
theorem Zkr{f}{fd}(F:Fun K "counts" "counts" sCo f fd)(T:Bi mg):FnOk P w K mg base CX0 1 f fd ["tints","many"] spCo:=by
 refine F.ok scCo (fun vs H Q E h=>?_) (fun cdv A outer s H vs Q E hr h=>?_)
 ·obtain⟨r,tl,m,rfl,_⟩:=h
  rfl
 ·obtain⟨r,tl,m,rfl,hR,hm,q⟩:=h
  refine⟨_,Zb (Zj (i:=2) scCo.nd rfl (Or.inl rfl) (Zp ZaY (Yd (Zc Ze Za)) (pv 1)))
   (Zb (ZL PassesOwn.never rfl (Yu (pv 0)) (Zq (i:=3) scCo.nd rfl (Or.inl rfl))
    (Zg (Z0 (PW.pt (pw_and (Zm Y9 (pv 3) ZM (Zv _)) (pw_and1 (Zm Zax (pv 3) (pv 1) (Zv _))))) (Zg (ZdQ (pv 2) (pv 3) ZcQ Ze Zd8 ZU)) Zt)))
   (Zg (Zs (Z1 Zb3 rfl T.tuple Yl (Zc (pv 2) Za))))),(by decide),fun b hb=>?_⟩
  refine⟨_,rfl,b,m,_,rfl,rfl,Zd,(by omega),(by omega),(by rw[sizeLine_eq,Int.toNat_natCast];show 1*m<=_;omega),fun D hD=>?_⟩
  rw[Int.toNat_natCast,Zez]
  have hD0:=(Zi hb).none hD
  have s1:Same H (upd (upd H b (.lst [.int 0])) D (.lst (lv (fun _=>0) m))):=(Zi hb).wr hD0
  refine⟨_,rfl,r,rfl,⟨_,SqT.of (s1 _ _ hR)⟩,Yt (K:=K) (a:=r) (xs:=tv tl) (fun i σ H'=>∃L v3,σ=[some (.ref r),some (.int m),some (.ref D),v3]/\Same H H'/\H' D=some (.lst (lv L m))/\∀x,x<m->L x=cnt (tl.take i) x) ⟨_,_,rfl,s1,Zd,fun x _=>rfl⟩ (fun i σ H' _⟨L,v3,_,d,_⟩=>SqT.of (d _ _ hR)) (fun i x σ H' hx xq1=>?_) (fun σ H' xq1=>?_)⟩
  ·obtain⟨L,v3,e,d,j,k⟩:=xq1
   subst e
   obtain⟨o,ho,rfl⟩:=Jk hx
   refine⟨_,rfl,rfl,_,rfl,?_⟩
   cases o with
   |none=>exact ZD (ZD ⟨L,_,rfl,d,j,ZcX ho (fun t z=>by cases z) k⟩)
   |some t=>
    refine YA ⟨_,rfl,_,rfl,_,_,rfl,rfl,_,rfl,ZF (fun hz=>?_) (fun hz=>?_)⟩
    ·have g:t<m:=by have:=of_decide_eq_true hz;omega
     refine⟨_,rfl,_,rfl,D,_,t,_,rfl,rfl,j,JH L g,_,_,rfl,rfl,D,_,t,rfl,rfl,j,(by rw[Jt];exact g),?_⟩
     rw[(show(lv L m).set t (.int ((L t)+1))=lv (put L t (L t+1)) m by rw[<-Zck];rfl)]
     exact⟨_,_,rfl,d.wr hD0,Zd,Zhz ho k⟩
    ·have g:m<=t:=by have:¬(t<(m:Int)):=fun z=>hz (decide_eq_true z);omega
     exact⟨L,_,rfl,d,j,ZcX ho (fun t' z=>by cases z;exact g) k⟩
  ·obtain⟨L,v3,e,d,j,k⟩:=xq1
   subst e
   rw[Yp,List.take_length]at k
   refine⟨_,rfl,D,_,rfl,SqL.of j,fun t H2 s2 g=>q H2 t (Same.trans d s2) ?_⟩
   rw[ZkB k]at g
   exact g
end
theorem Zbb(l):nl l=(l.map fun x:Nat=>(x:Int)).map V.int:=by
 rw[List.map_map]
 rfl
def fl(kn:List Nat)(l:List Nat):List Nat:=l.filter fun x=>decide (x ∉ kn)
theorem Zhd:∀vs H Q Q' E,(∀v H',Q v H'->Q' v H')->spCh vs H Q E->spCh vs H Q' E:=fun vs H Q Q' E k⟨p,r,n,q,h,o,j,l,u,v,e,a,b,c,d,z⟩=>⟨p,r,n,q,h,o,j,l,u,v,e,a,b,c,d,fun H' t S g i f m=>k _ _ (z H' t S g i f m)⟩
def Zdq(tl:List (Option Nat))(S:List Nat):List Nat:=S.map fun k=>(tl.getD k none).getD 0
theorem ZaP{tl}{u v}(t:Nat):∀{S},(∀k∈S,InP tl u v k)->((Zdq tl S).map fun x:Nat=>(x:Int)).count (t:Int)=Jb tl S t
 |[],_=>rfl
 |k::S,h=>by
  have c:=ZaP t fun j d=>h j (.tail _ d)
  unfold Jb at c⊢
  show List.count (t:Int) ((((tl.getD k _).getD 0:Nat))::((Zdq tl S).map fun x:Nat=>x))=_
  rw[List.count_cons,c,List.filter_cons]
  obtain⟨a,e⟩:∃a,tl[k]?=some _:=(h k (.head _)).elim (fun z=>⟨u,z⟩) fun z=>⟨v,z⟩
  rw[(show(tl.getD k _).getD 0=a by simp_all)]
  by_cases z:a=t
  ·simp_all
  ·rw[if_neg fun y=>z (Int.ofNat_inj.mp (eq_of_beq y)),if_neg fun y=>z (Option.some.inj (Option.some.inj (e.symm.trans (of_decide_eq_true y))))]
   rfl
section
variable{P:Program}{w:World}{K:PySem.W.Frag}{mg:Str->Option Value}{base:Heap}
abbrev sPs:Stmt:=top 42
abbrev nPs:List Str:=["net","tints","one","other","point","row"]
def ZkL:Stmt->Expr
 | .For _ _ (.Assign _ e _::_) _ _=>e
 |_=> .Constant .none 0 ⟨0,0,0,0⟩
abbrev ZgO:Scope:=compScope (ZkL (stOf 42 0))
inductive spPs(vs:List V)(H:Hp)(Q:VK)(_z3:XK):Prop
 |mk (p r:Addr) (n:Nat) (q:Addr) (ts:List V) (es:List (Nat×Nat)) (tl:List (Option Nat)) (a b:Nat) (_:vs=[.ref p,.ref r,.int a,.int b]) (_:NetZ H p n q ts es) (_:H r=some (.tup (tv tl))) (_:tl.length=es.length) (_:es.length<64) (_:cnt tl b<cnt tl a) (_:∀H'(pt),Same H H'->pt<n->Sur es tl a b pt->(∀p',p'<pt->¬Sur es tl a b p')->Q (.int pt) H')
theorem ZlK:(["tie","tints"]:List Str).Nodup:=by decide+kernel
theorem scPs:Zr nPs ["net","tints","one","other"] (Zh sPs):=⟨rfl,rfl,rfl,by decide+kernel,rfl,by decide+kernel,by decide+kernel⟩
theorem ZkW{f}{cdv}{A}{outer}{s}{H}{E}:
  Blk (Yk CX0 P w K mg base nPs "point_of_surplus" (Zh sPs) f cdv A outer s H E).nox ZgO [("tints",s.heap.objs.size+1)] ["tie","tints"] [none,some 1]:=by
 refine⟨rfl,rfl,by decide+kernel,by decide+kernel,fun p d=>?_,fun y g e=>?_,⟨rfl,rfl,rfl⟩,trivial⟩
 ·rw[List.mem_singleton.mp d]
  rfl
 ·have c:y∈[((PySem.Str.ofString _),NameKind.local),(PySem.Str.ofString _,.local),(PySem.Str.ofString _,.free)]:=g
  simp[List.mem_cons,List.not_mem_nil,or_false]at c
  grind
theorem Zkc{f}{fd}(F:Fun K "point_of_surplus" "point_of_surplus" sPs f fd)(T:Bi mg)(FC:FnE P w K mg base "chain" ["net","tints","point","one","other"] 5 spCh):FnOk P w K mg base CX0 6 f fd ["net","tints","one","other"] spPs:=by
 refine F.ok scPs (fun vs H Q E h=>?_) (fun cdv A outer s H vs Q E hr h=>?_)
 ·obtain⟨p,r,n,q,ts,es,m,a,b,rfl,_⟩:=h
  rfl
 ·obtain⟨p,r,n,qa,ts,es,m,a,b,rfl,N,hR,htl,h64,hlt,q⟩:=h
  refine⟨_,Zb (ZL PassesOwn.never rfl (Yi rfl T.range (Zc (Zl Zo (pv 0) Ze (fun _ _=>rfl)) Za)) (Zq (i:=4) scPs.nd rfl (Or.inl rfl))
    (Zb (Zi0 ZkW rfl (Zw FC hr (Zc (pv 0) (Zc (pv 1) (Zc (pv 4) (Zc (pv 2) (Zc (pv 3) Za)))))) (Zd1 Zhd (Z2 (Z9 0) (Z2 (Z9 1) (Z2 (Z9 4) (Z2 (Z9 2) (Z2 (Z9 3) ZY))))))
     (fun C fp s H=>Zq (i:=0) ZlK rfl (Or.inl rfl)) (fun C fp s H=>JR) (fun C fp s H=>Zl (Zhh (K:=K) rfl) (pv 1) (pv 0) (fun _ _=>rfl)) (Zq (i:=5) scPs.nd rfl (Or.inl rfl)) rfl)
    (Zg (Z0 (Zm Zf8 (YT PySem.F.plainAttrs_list PySem.F.slot_list_count PySem.F.type_list_count (ZcG rfl) (pv 5) (Zc (pv 2) Za)) (YT PySem.F.plainAttrs_list PySem.F.slot_list_count PySem.F.type_list_count (ZcG rfl) (pv 5) (Zc (pv 3) Za)) (Zv _)) (Zg (Zs (pv 4))) Zt))))
   (Zg (Zs ZM)),?_⟩
  have h60:=N.n60
  refine⟨_,rfl,p,_,_,_,rfl,rfl,SqT.of N.e1,rfl,_,rfl,by omega,by omega,Yz (lo:=0) (n:=((n:Nat):Int).toNat) (fun k σ G=>∃v4 v5,σ=[some (.ref p),some (.ref r),some (.int a),some (.int (b:Int)),v4,v5]/\Same H G/\∀B,B<k->¬Sur es m a b B)
   ⟨_,_,rfl,Same.refl _,fun B hp'=>absurd hp' (Nat.not_lt_zero _)⟩ (fun k σ G hk xq1=>?_) (fun σ G xq1=>?_)⟩
  ·obtain⟨v4,v5,e,SG,o⟩:=xq1
   subst e
   refine⟨_,rfl,_,rfl,_,rfl,_,rfl,_,rfl,p,r,n,qa,ts,es,m,k,a,b,(by rw[Int.zero_add];rfl),N.same SG,SG _ _ hR,htl,h64,fun G1 t S s1 ht hS u=>?_⟩
   have SG1:=Same.trans SG s1
   have hI:=fun j v=>((u j).mp v).2.1
   have hSl:=Zbd (hS.imp fun z=>Nat.ne_of_lt z) fun j v=>((u j).mp v).1
   refine⟨t,_,rfl,SqT.of ht,(by rw[nl_len];omega),fun i ys σ G2=>Same G1 G2/\ys=nl (Zdq m (S.take i))/\∃v0,σ=[v0,some (.ref r)],⟨Same.refl _,rfl,none,rfl⟩,fun i ys σ G2 hi⟨D,e2,_⟩=>⟨SqT.of (D _ _ ht),?_⟩,fun i y ys σ G2 hy xq1=>?_,fun ys σ G2 xq1 l G3 s3 hl=>?_⟩
   ·subst e2
    rw[nl_len]
    unfold Zdq
    rw[List.length_map,List.length_take]
    omega
   ·obtain⟨D,e2,v0,e3⟩:=xq1
    subst e2 e3
    obtain⟨j,v,rfl⟩:=ZfG hy
    obtain⟨c,hc⟩:∃c,m[j]?=some (some c):=(hI j (List.mem_of_getElem? v)).elim (fun z=>⟨a,z⟩) fun z=>⟨b,z⟩
    refine⟨_,rfl,_,rfl,r,_,_,_,rfl,rfl,SqT.of (D _ _ (SG1 _ _ hR)),Z3 (Zdg hc),D,?_,_,rfl⟩
    rw[List.take_add_one,v]
    unfold Zdq
    rw[List.map_append]
    show _++[V.int (c:Int)]=nl (_++[(m.getD j none).getD 0])
    rw[Ju hc,<-nl_app]
    rfl
   ·obtain⟨D,e2,_⟩:=xq1
    subst e2
    rw[nl_len,List.take_length,Zbb]at hl
    have hrl:((Zdq m S).map fun x:Nat=>(x:Int)).length<=1000:=by
     unfold Zdq
     rw[List.length_map,List.length_map]
     omega
    have SG3:=Same.trans SG1 (Same.trans D s3)
    refine⟨_,rfl,.inl ⟨rfl,_,SqL.of hl⟩,_,rfl,l,_,_,rfl,rfl,SqL.of hl,hrl,_,rfl,.inl ⟨rfl,_,SqL.of hl⟩,_,rfl,l,_,_,rfl,rfl,SqL.of hl,hrl,_,_,rfl,rfl,_,rfl,?_⟩
    rw[ZaP a hI,ZaP b hI]
    have hsu:=ZdM hS u
    refine ZF (fun hz=>?_) (fun hz=>?_)
    ·have h1:Jb m S b<Jb m S a:=by have:=of_decide_eq_true hz;omega
     refine⟨_,rfl,?_⟩
     rw[Int.zero_add]
     exact q G3 k SG3 (show k<n by omega) (hsu.mpr h1) o
    ·have h1:¬Jb m S b<Jb m S a:=fun z=>hz (decide_eq_true (by omega))
     refine⟨_,_,rfl,SG3,fun B hp'=>?_⟩
     by_cases e:B=k
     ·subst e
      exact fun z=>h1 (hsu.mp z)
     ·exact o B (by omega)
  ·obtain⟨v4,v5,e,SG,o⟩:=xq1
   obtain⟨p0,h1,h2⟩:=Zii N.ok htl hlt
   exact absurd h2 (o p0 (by omega))
abbrev sEs:Stmt:=top 43
abbrev nEs:List Str:=["net","tints","many","numbers","fullest","emptiest","one","other"]
def StV(H:Hp)(o:Option Stp)(v:V):Prop:=(o=none/\v= .non)\/∃s t,o=some s/\v= .ref t/\H t=some (.tup (stV s))
inductive spEs(vs:List V)(H:Hp)(Q:VK)(_z3:XK):Prop
 |mk (p r:Addr) (n:Nat) (q:Addr) (ts:List V) (es:List (Nat×Nat)) (tl:List (Option Nat)) (m:Nat) (_:vs=[.ref p,.ref r,.int m]) (_:NetZ H p n q ts es) (_:H r=some (.tup (tv tl))) (_:tl.length=es.length) (_:es.length<64) (_:0<m) (_:m<=1000) (_:∀H' o v,Same H H'->ZbZ es n m tl o->StV H' o v->Q v H')
theorem scEs:Zr nEs ["net","tints","many"] (Zh sEs):=⟨rfl,rfl,rfl,by decide+kernel,rfl,by decide+kernel,by decide+kernel⟩
def cnI(tl:List (Option Nat))(m:Nat):List Int:=(Zhx tl m).map fun x:Nat=>x
theorem J9{tl}{m t}(h:t<m):(cnI tl m)[t]?=some ((cnt tl t:Nat):Int):=by
 unfold cnI Zhx
 simp_all
theorem Zei{tl}{m t}{x}(h:(cnI tl m)[t]?=some x):t<m/\x=((cnt tl t:Nat):Int):=by
 have a:t<m:=by
  have:=(List.getElem?_eq_some_iff.mp h).1
  unfold cnI Zhx at this
  simp_all
 rw[J9 a]at h
 simp_all
theorem Zgk{tl}{m}(h:0<m):cnI tl m≠[]:=fun z=>by
 have:=J9 (tl:=tl) h
 grind
theorem Zgl{tl}{m a}{M}(hM:∀x∈cnI tl m,x<=M) (h:(cnI tl m)[a]?=some M) (hf:∀i:Nat,i<a->(cnI tl m)[i]?≠some M):IsFl (cnt tl) m a/\M=((cnt tl a:Nat)):=by
 obtain⟨d,e⟩:=Zei h
 refine⟨⟨d,fun t b=>?_,fun t b=>?_⟩,e⟩
 ·have:=hM _ (List.mem_of_getElem? (J9 (tl:=tl) b))
  omega
 ·have c:=J9 (tl:=tl) (show t<m by omega)
  have _:=hM _ (List.mem_of_getElem? c)
  grind
theorem Zgm{tl}{m a}{M}(hM:∀x∈cnI tl m,M<=x) (h:(cnI tl m)[a]?=some M) (hf:∀i:Nat,i<a->(cnI tl m)[i]?≠some M):IsEm (cnt tl) m a/\M=((cnt tl a:Nat)):=by
 obtain⟨d,e⟩:=Zei h
 refine⟨⟨d,fun t b=>?_,fun t b=>?_⟩,e⟩
 ·have:=hM _ (List.mem_of_getElem? (J9 (tl:=tl) b))
  omega
 ·have c:=J9 (tl:=tl) (show t<m by omega)
  have _:=hM _ (List.mem_of_getElem? c)
  grind
theorem Zko{f}{fd}(F:Fun K "evening_step" "evening_step" sEs f fd)(T:Bi mg)(hmax:mg "max"=none)(hmin:mg "min"=none)(FC:FnE P w K mg base "counts" ["tints","many"] 6 spCo)(FP:FnE P w K mg base "point_of_surplus" ["net","tints","one","other"] 6 spPs):FnOk P w K mg base CX0 7 f fd ["net","tints","many"] spEs:=by
 refine F.ok scEs (fun vs H Q E h=>?_) (fun cdv A outer s H vs Q E hr h=>?_)
 ·obtain⟨p,r,n,q,ts,es,tl,m,rfl,_⟩:=h
  rfl
 ·obtain⟨p,r,n,qa,ts,es,tl,m,rfl,N,hR,htl,h64,hm0,hm,q⟩:=h
  refine⟨_,Zb (Zj (i:=3) scEs.nd rfl (Or.inl rfl) (Zw FC hr (Zc (pv 1) (Zc (pv 2) Za))))
   (Zb (Zj (i:=4) scEs.nd rfl (Or.inl rfl) (Zfz rfl (pv 3) Ze rfl hmax))
   (Zb (Zj (i:=5) scEs.nd rfl (Or.inl rfl) (Zfy rfl (pv 3) Ze rfl hmin))
   (Zb (Z0 (Zm Zax (Zp Jq (pv 4) (pv 5)) Ze (Zv _)) (Zg (Zs ZM)) Zt)
   (Zb (Zj (i:=6) scEs.nd rfl (Or.inl rfl) (Zf4 PySem.F.slot_tuple_index PySem.F.type_tuple_index ZbI (pv 3) (Zc (pv 4) Za)))
   (Zb (Zj (i:=7) scEs.nd rfl (Or.inl rfl) (Zf4 PySem.F.slot_tuple_index PySem.F.type_tuple_index ZbI (pv 3) (Zc (pv 5) Za)))
   (Zg (Zs (Z5 (Zc ZT (Zc (Zw FP hr (Zc (pv 0) (Zc (pv 1) (Zc (pv 6) (Zc (pv 7) Za))))) (Zc (pv 6) (Zc (pv 7) Za))))))))))))
   ,_,rfl,_,rfl,r,tl,m,rfl,hR,hm,fun H1 c s1 hc=>?_⟩
  have hc':Fz H1 c ((cnI tl m).map V.int):=by rw[Zbb]at hc;exact hc
  refine⟨_,rfl,c,cnI tl m,rfl,hc'.sq,fun M hM=>?_⟩
  have hM:=hM.resolve_left fun z=>Zgk hm0 z.1
  refine⟨_,rfl,c,cnI tl m,rfl,hc'.sq,fun M' e=>?_⟩
  have e:=e.resolve_left fun z=>Zgk hm0 z.1
  obtain⟨a,ha1,ha2⟩:=Zab hM.1
  obtain⟨b,hb1,hb2⟩:=Zab e.1
  obtain⟨fa,ea⟩:=Zgl hM.2 ha1 ha2
  obtain⟨fb,eb⟩:=Zgm e.2 hb1 hb2
  refine⟨_,rfl,_,rfl,_,_,rfl,rfl,_,_,rfl,rfl,_,rfl,ZF (fun hz=>?_) (fun hz=>?_)⟩
  ·have h1:=of_decide_eq_true hz
   exact q H1 none .non s1 ⟨a,b,fa,fb,by omega⟩ (.inl ⟨rfl,rfl⟩)
  ·have h1:¬(M-M'<2):=fun z=>hz (decide_eq_true z)
   refine⟨_,rfl,⟨c,_,rfl,hc'⟩,_,rfl,c,cnI tl m,M,rfl,rfl,hc'.sq,hM.1,fun a' ha1' ha2'=>?_⟩
   obtain⟨fa',_⟩:=Zgl hM.2 ha1' ha2'
   have e1:=fa'.uniq fa
   subst e1
   refine⟨_,rfl,⟨c,_,rfl,hc'⟩,_,rfl,c,cnI tl m,M',rfl,rfl,hc'.sq,e.1,fun b' hb1' hb2'=>?_⟩
   obtain⟨fb',_⟩:=Zgm e.2 hb1' hb2'
   have e2:=fb'.uniq fb
   subst e2
   exact⟨_,rfl,_,rfl,_,rfl,_,rfl,p,r,n,qa,ts,es,tl,a',b',rfl,N.same s1,s1 _ _ hR,htl,h64,by omega,fun H2 pt s2 hpt hsu hno=>⟨_,rfl,_,rfl,rfl,fun t H3 s3 ht=>(q H3 (some (.turn pt a' b')) (.ref t) (Same.trans s1 (Same.trans s2 s3)) ⟨a',b',pt,rfl,fa,fb,by omega,hpt,hsu,hno⟩ (.inr ⟨_,t,rfl,rfl,ht⟩))⟩⟩
end
theorem ShSt.snoc{G}{D t}{pre}{s}(h:ShSt G D pre)(ht:G t=some (.tup (stV s))):∃xs,G D=some (.lst xs)/\xs.length=pre.length/\ShSt (upd G D (.lst (xs++[.ref t]))) D (pre++[s]):=by
 obtain⟨e,a,b,c⟩:=h
 refine⟨_,a,by rw[<-b,List.length_map,List.length_map],e++[(t,s)],by rw[Zd,List.map_append];rfl,by simp_all,fun x f=>?_⟩
 have d:∀y,G y=some (.tup (stV x.2))->upd G D (.lst ((e.map fun x=>V.ref x.1)++[.ref t])) y=some _:=fun y g=>by
  rw[Zf fun z=>by grind]
  exact g
 rcases List.mem_append.mp f with z|z
 ·exact d _ (c x z)
 ·grind
section
variable{P:Program}{w:World}{K:PySem.W.Frag}{mg:Str->Option Value}{base:Heap}
abbrev sEv:Stmt:=top 44
abbrev nEv:List Str:=["net","tints","many","need","steps","now","step"]
abbrev Zhr:Scope:=compScope (retE (stOf 44 0))
inductive spEv(vs:List V)(H:Hp)(Q:VK)(_z3:XK):Prop
 |mk (p r:Addr) (n:Nat) (q:Addr) (ts:List V) (es:List (Nat×Nat)) (tl:List (Option Nat)) (m:Nat) (_:vs=[.ref p,.ref r,.int m]) (_:NetZ H p n q ts es) (_:H r=some (.tup (tv tl))) (_:Tg es m tl) (_:es.length<64) (_:0<m) (_:m<=1000) (_:∀H' l sl t2,Same H H'->H l=none->ShSt H' l sl->Evn es n m tl sl t2->Q (.ref l) H')
theorem Zk6:(["tint"]:List Str).Nodup:=by decide+kernel
theorem scEv:Zr nEv ["net","tints","many"] (Zh sEv):=⟨rfl,rfl,rfl,by decide+kernel,rfl,by decide+kernel,by decide+kernel⟩
theorem ZhW{f}{cdv}{A}{outer}{s}{H}{E}:
  Blk (Yk CX0 P w K mg base nEv "evened" (Zh sEv) f cdv A outer s H E).nox Zhr [] ["tint"] [none]:=by
 refine⟨rfl,rfl,by decide+kernel,by decide+kernel,fun p c=>(by cases c),fun y d e=>?_,trivial⟩
 have _:y∈[((PySem.Str.ofString _),NameKind.local),(PySem.Str.ofString _,.local)]:=d
 grind
theorem Zkn{f}{fd}(F:Fun K "evened" "evened" sEv f fd)(hmax:mg "max"=none)(FS:FnE P w K mg base "evening_step" ["net","tints","many"] 7 spEs)(FD:FnE P w K mg base "done" ["net","tints","step"] 7 spDo):FnOk P w K mg base CX0 8 f fd ["net","tints","many"] spEv:=by
 refine F.ok scEv (fun vs H Q E h=>?_) (fun cdv A outer s H vs Q E hr h=>?_)
 ·obtain⟨p,r,n,q,ts,es,tl,m,rfl,_⟩:=h
  rfl
 ·obtain⟨p,r,n,qa,ts,es,tl,m,rfl,N,hR,T,h64,hm0,hm,q⟩:=h
  refine⟨_,Zb (Zj (i:=3) scEv.nd rfl (Or.inl rfl) (Za8 rfl (Zch ZhW rfl (pv 1) (Z9 1) (fun C fp s H=>Zq (i:=0) Zk6 rfl (Or.inl rfl)) (fun C fp s H=>Y8 (Zm Y9 (pv 0) ZM rfl)) (fun C fp s H=>Zp Z4 (pv 0) Ze)) Ze rfl hmax))
   (Zb (Z0 (Zm Zax (pv 2) (pv 3) (Zv _)) Z8 Zt)
   (Zb (Zj (i:=4) scEv.nd rfl (Or.inl rfl) (Yd Za))
   (Zb (Zj (i:=5) scEv.nd rfl (Or.inl rfl) (pv 1))
   (Zb (Zj (i:=6) scEv.nd rfl (Or.inl rfl) (Zw FS hr (Zc (pv 0) (Zc (pv 5) (Zc (pv 2) Za)))))
   (Zb (Jp PassesOwn.never (Zm Y9 (pv 6) ZM (Zv _))
    (Zb (ZH (YT PySem.F.plainAttrs_list PySem.F.slot_list_append PySem.F.type_list_append ZX (pv 4) (Zc (pv 6) Za)))
    (Zb (Zj (i:=5) scEv.nd rfl (Or.inl rfl) (Zw FD hr (Zc (pv 0) (Zc (pv 5) (Zc (pv 6) Za)))))
    (Zg (Zj (i:=6) scEv.nd rfl (Or.inl rfl) (Zw FS hr (Zc (pv 0) (Zc (pv 5) (Zc (pv 2) Za)))))))))
   (Zg (Zs (pv 4)))))))),?_⟩
  have hl:=T.len
  refine⟨_,rfl,r,_,rfl,SqT.of hR,(by rw[Yp];omega),fun i ys σ G=>Same H G/\(∃L:List Int,ys=L.map V.int/\L.length<=i/\∀x∈L,x<=(m:Int))/\∃v0,σ=[v0],⟨Same.refl _,⟨[],rfl,Nat.le_refl _,fun x hx=>by cases hx⟩,none,rfl⟩,fun i ys σ G hi⟨e1,⟨L,e2,e3,_⟩,_⟩=>⟨SqT.of (e1 _ _ hR),by rw[e2,List.length_map];exact e3⟩,fun i y ys σ G hy xq1=>?_,fun ys σ G xq1 l G1 s1 hl1=>?_⟩
  ·obtain⟨e1,⟨L,e2,e3,e4⟩,v0,e5⟩:=xq1
   subst e2 e5
   obtain⟨o,ho,rfl⟩:=Jk hy
   refine⟨_,rfl,rfl,_,rfl,?_⟩
   cases o with
   |none=>exact ZD ⟨e1,⟨L,rfl,by omega,e4⟩,_,rfl⟩
   |some t=>
    have ht:=T.lt t (List.mem_of_getElem? ho)
    refine YA ⟨_,rfl,_,_,rfl,rfl,e1,⟨L++[(t:Int)+1],by rw[List.map_append];rfl,by rw[List.length_append];show L.length+1<=i+1;omega,fun x hx=>?_⟩,_,rfl⟩
    rcases List.mem_append.mp hx with z|z
    ·exact e4 x z
    ·rw[List.mem_singleton.mp z];omega
  ·obtain⟨e1,⟨L,e2,e3,e4⟩,_⟩:=xq1
   subst e2
   have SG1:=Same.trans e1 s1
   refine⟨l,L,rfl,SqL.of hl1,fun M hM=>?_⟩
   have hMm:=hM.elim (fun z=>by rw[z.2];omega) fun z=>e4 M z.1
   refine⟨_,rfl,_,rfl,_,_,rfl,rfl,_,rfl,ZF (fun z=>absurd (of_decide_eq_true z) (by omega)) (fun _=>⟨Nat.zero_le _,fun D hD=>?_⟩)⟩
   have hDH:=SG1.none hD
   have SG2:Same H (upd G1 D (.lst [])):=SG1.wr hDH
   refine⟨_,rfl,_,rfl,_,rfl,_,rfl,p,r,n,qa,ts,es,tl,m,rfl,N.same SG2,SG2 _ _ hR,hl,h64,hm0,hm,fun G3 o v s3 hst hsv=>?_⟩
   have hm1:m*(sm (cnt tl) m/m)<=sm (cnt tl) m:=Nat.mul_div_le _ _
   have hm2:sm (cnt tl) m<m*(sm (cnt tl) m/m+1):=Nat.lt_mul_div_succ _ hm0
   have hmu:mu (cnt tl) m (sm (cnt tl) m/m)<=64:=by
    have h1:=Zk8 hm1
    have h2:=Zfl m tl
    omega
   generalize sm (cnt tl) m/m=qq at hm1 hm2 hmu
   refine⟨fun k σ G=>∃nw d e o v,k=mu (cnt d) m qq/\σ=[some (.ref p),some (.ref r),some (.int (m:Int)),some (.int M),some (.ref D),some (.ref nw),some v]/\Same H G/\ShSt G D e/\G nw=some (.tup (tv d))/\Tg es m d/\ZbZ es n m d o/\StV G o v/\m*qq<=sm (cnt d) m/\sm (cnt d) m<m*(qq+1)/\e.length+mu (cnt d) m qq<=64/\∀sl t2,Evn es n m d sl t2->Evn es n m tl (e++sl) t2,
    ⟨_,r,tl,[],o,v,rfl,rfl,Same.trans SG2 s3,⟨[],s3 _ _ Zd,rfl,fun x hx=>by cases hx⟩,s3 _ _ (SG2 _ _ hR),T,hst,hsv,hm1,hm2,by rw[List.length_nil];omega,fun sl t2 h=>h⟩,?_⟩
   rintro k σ G ⟨nw,d,e,o,v,rfl,rfl,SG,hSh,hnw,T',hst,hsv,q1,q2,hpl,hev⟩
   refine⟨_,rfl,rfl,_,rfl,?_⟩
   rcases hsv with⟨rfl,rfl⟩|⟨st,t,rfl,rfl,ht⟩
   ·refine ZD ⟨_,rfl,?_⟩
    have:=hev [] d (.stop hst)
    rw[List.append_nil]at this
    exact q G D e d SG hDH hSh this
   ·refine YA ?_
    obtain⟨xs,hxs,hxl,hSh'⟩:=hSh.snoc ht
    refine⟨fun σ' G'=>∃m',m'<mu (cnt d) m qq/\∃nw d e o v,m'=mu (cnt d) m qq/\σ'=[some (.ref p),some (.ref r),some (.int (m:Int)),some (.int M),some (.ref D),some (.ref nw),some v]/\Same H G'/\ShSt G' D e/\G' nw=some (.tup (tv d))/\Tg es m d/\ZbZ es n m d o/\StV G' o v/\m*qq<=sm (cnt d) m/\sm (cnt d) m<m*(qq+1)/\e.length+mu (cnt d) m qq<=64/\∀sl t2,Evn es n m d sl t2->Evn es n m tl (e++sl) t2,fun _ _ h=>h,_,rfl,.inl ⟨rfl,_,SqL.of hxs⟩,_,rfl,D,_,_,rfl,rfl,hxs,(by rw[hxl,sizeLine_eq];omega),?_⟩
    have SN:Same H (upd G D (.lst (xs++[.ref t]))):=SG.wr hDH
    have keep:∀{y zs},G y=some (.tup zs)->upd G D (.lst (xs++[.ref t])) y=some (.tup zs):=fun{y zs} hy=>by
     rw[Zf fun z=>by rw[z,hxs]at hy;cases hy]
     exact hy
    have hnw':=keep hnw
    have ht':=keep ht
    generalize upd G D (.lst (xs++[.ref t]))=G4 at hSh' SN hnw' ht'
    obtain⟨a,b,pt,rfl,hrest⟩:=id hst
    have so:StOk n es.length m (.turn pt a b):=by
     obtain⟨x1,x2,x3,x4,_⟩:=hrest
     exact⟨x4,x1.1,x2.1,fun z=>by subst z;omega⟩
    refine⟨_,rfl,_,rfl,_,rfl,p,nw,t,n,qa,ts,es,d,pt,a,b,rfl,N.same SN,hnw',T'.len,h64,ht',so.up hm,fun G5 t5 S s5 h5 hS hRT=>?_⟩
    have hd:Did es d (.turn pt a b) (trn d a b S):=⟨S,hS,hRT,rfl⟩
    obtain⟨T1,_,_,hmm⟩:=Zhq (q:=qq) N.ok T' hst hd
    obtain⟨m1,m2⟩:=hmm q1 q2
    have SG5:=Same.trans SN s5
    refine⟨_,rfl,_,rfl,_,rfl,p,t5,n,qa,ts,es,_,m,rfl,N.same SG5,h5,T1.len,h64,hm0,hm,fun G6 o6 v6 s6 hst6 hsv6=>⟨_,Nat.lt_of_succ_le m2,t5,_,e++[.turn pt a b],o6,v6,rfl,rfl,Same.trans SG5 s6,(hSh'.same s5).same s6,s6 _ _ h5,T1,hst6,hsv6,by omega,by omega,by rw[List.length_append];show e.length+1+_<=64;omega,fun sl t2 h=>?_⟩⟩
    rw[List.append_assoc]
    exact hev _ t2 (.go hst hd h)
abbrev sTi:Stmt:=top 72
abbrev nTi:List Str:=["_law_script","_law_at","_law_net_here","_law_menu","_law_tints","_law_met_here","_law_k","_law_one","_law_other","_law_number","_law_tint","_law_j","_law_new"]
inductive Zil(K:PySem.W.Frag)(vs:List V)(H:Hp)(Q:VK)(_z3:XK):Prop
 |mk (a ns at' p n q ts es me mn:_) (_:vs=[.ref a,.int at',.ref p,.ref me]) (_:SqL K H a (ns.map V.int)) (_:Dr ns) (_:0<=at') (_:at'<=200) (_:es.length<=28) (_:NetZ H p n q ts es) (_:H me=some (.lst (nl mn))) (_:mn.length<=4000) (_:∀(H')(r)(tl),Same H H'->H' r=some (.tup (tv tl))->tl.length=es.length->(∀t,some t∈tl->t∈mn)->CleanTo es tl es.length->Q (.ref r) H')
theorem scTi:Zr nTi ["_law_script","_law_at","_law_net_here","_law_menu"] (Zh sTi):=⟨rfl,rfl,rfl,by decide+kernel,rfl,by decide+kernel,by decide+kernel⟩
theorem ZjW{f}{fd}(F:Fun K "_law_tinting" "_law_tinting" sTi f fd)(T:Bi mg)(FD:FnE P w K mg base "_law_draw" ["_law_script","_law_k"] 1 (JD K)):FnOk P w K mg base CX0 2 f fd ["_law_script","_law_at","_law_net_here","_law_menu"] (Zil K):=by
 refine F.ok scTi (fun vs H Q E h=>?_) (fun cdv A outer s H vs Q E hr h=>?_)
 ·obtain⟨a,ns,at',p,n,q,ts,es,me,mn,rfl,_⟩:=h
  rfl
 ·obtain⟨a,ns,at',p,n,qa,ts,es,me,mn,rfl,hS,hl,at0,at1,h60,N,hMe,hmn,q⟩:=h
  have hu:=ZdZ hr
  obtain⟨tT,hTT,rT⟩:∃t,PSs (Yk CX0 P w K mg base nTi "_law_tinting" (Zh sTi) f cdv A outer s H E).nox ((ZkM (stOf 72 2)).drop 5) t/\
    ∀(D:Ends)(k:Nat)(kvs:List (List Key×V))(tl:List (Option Nat))(mine:Option Nat)(G:Hp)(v9 v11 v12:Option V){d l:Addr},k<es.length->
     Same H G->G d=some (.dT kvs)->G l=some (.lst (tv tl))->kvs.length<=2*k->tl.length=k->(∀t,some t∈tl->t∈mn)->CleanTo es tl k->Keys kvs (Used es tl k)->(∀t,mine=some t->t∈mn/\¬Used es tl k (es.getD k (0,0)).1 t/\¬Used es tl k (es.getD k (0,0)).2 t)->H d=none->H l=none->
     (∀(G':Hp)(kvs':List (List Key×V))(tl':List (Option Nat)),Same H G'->G' d=some (.dT kvs')->G' l=some (.lst (tv tl'))->kvs'.length<=2*(k+1)->tl'.length=k+1->(∀t,some t∈tl'->t∈mn)->CleanTo es tl' (k+1)->Keys kvs' (Used es tl' (k+1))->
      D.nx [some (.ref a),some (.int at'),some (.ref p),some (.ref me),some (.ref l),some (.ref d),some (.int (0+(k:Int))),some (.int ((es.getD k (0,0)).1:Int)),some (.int ((es.getD k (0,0)).2:Int)),v9,some (tN mine),v11,v12] G')->
     t D [some (.ref a),some (.int at'),some (.ref p),some (.ref me),some (.ref l),some (.ref d),some (.int (0+(k:Int))),some (.int ((es.getD k (0,0)).1:Int)),some (.int ((es.getD k (0,0)).2:Int)),v9,some (tN mine),v11,v12] G:=by
   refine⟨_,(Zb (Z0 (Zm Y9 (pv 10) ZM (Zv _))
     (Zb (Jz hu (pv 5) (Z5 (Zc (pv 7) (Zc (pv 10) Za))) ZE rfl)
     (Zg (Jz hu (pv 5) (Z5 (Zc (pv 8) (Zc (pv 10) Za))) ZE rfl))) Zt)
    (Zg (ZH (YT PySem.F.plainAttrs_list PySem.F.slot_list_append PySem.F.type_list_append ZX (pv 4) (Zc (pv 10) Za))))),fun D k kvs tl mine G v9 v11 v12{d l} hke sG gD gL hkv htl hb hC hK gm hd hlH fin=>?_⟩
   have h200:=N.l200
   have happ:(tl++[mine])[k]?=some mine:=by rw[List.getElem?_append_right (by omega),htl,Nat.sub_self];rfl
   have tvapp:tv tl++[tN mine]=tv (tl++[mine]):=by unfold tv;rw[List.map_append];rfl
   have hsz:(tv tl).length<sizeLine:=by rw[Yp,sizeLine_eq];omega
   have hdl:d≠l:=fun z=>by rw[z,gL]at gD;cases gD
   refine⟨_,rfl,rfl,_,rfl,?_⟩
   cases mine with
   |none=>
    refine ZD ⟨_,rfl,.inl ⟨rfl,_,SqL.of gL⟩,_,rfl,l,_,_,rfl,rfl,gL,hsz,?_⟩
    rw[tvapp]
    refine fin _ kvs (tl++[none]) (sG.wr hlH) (by rw[Zf hdl];exact gD) Zd (by omega) (by rw[List.length_append,htl];rfl) (fun t ht=>?_) ((hC.app (by omega)).succ fun t z=>?_) (hK.iff fun x t=>?_)
    ·rcases List.mem_append.mp ht with z|z
     ·exact hb t z
     ·rw[List.mem_singleton]at z;cases z
    ·rw[happ]at z;cases z
    ·rw[Used.succ,Used.app (by omega),happ]
     exact⟨.inl,fun z=>z.elim id fun⟨z1,_⟩=>by cases z1⟩
   |some t=>
    obtain⟨tm,nu1,nu2⟩:=gm t rfl
    refine YA ⟨_,rfl,_,rfl,_,rfl,rfl,fun t1 G1 u1 h1=>⟨d,_,rfl,DPut.t (k:=ky (es.getD k (0,0)).1 t) (u1 _ _ gD) h1 (by rw[sizeLine_eq];omega),?_⟩⟩
    have l1:=ZN kvs (ky (es.getD k (0,0)).1 t) (V.bl true)
    have s1:Same H (upd G1 d (.dT (putK kvs (ky (es.getD k (0,0)).1 t) (V.bl true)))):=(Same.trans sG u1).wr hd
    refine⟨_,rfl,_,rfl,_,rfl,rfl,fun t2 G2 u2 h2=>⟨d,_,rfl,DPut.t (k:=ky (es.getD k (0,0)).2 t) (u2 _ _ Zd) h2 (by rw[sizeLine_eq];omega),?_⟩⟩
    have l2:=ZN (putK kvs (ky (es.getD k (0,0)).1 t) (V.bl true)) (ky (es.getD k (0,0)).2 t) (V.bl true)
    have gL2:(upd G2 d (.dT (putK (putK kvs (ky (es.getD k (0,0)).1 t) (V.bl true)) (ky (es.getD k (0,0)).2 t) (V.bl true)))) l=some (.lst (tv tl)):=by
     rw[Zf (Ne.symm hdl)]
     exact u2 _ _ (by rw[Zf (Ne.symm hdl)];exact u1 _ _ gL)
    refine⟨_,rfl,.inl ⟨rfl,_,SqL.of gL2⟩,_,rfl,l,_,_,rfl,rfl,gL2,hsz,?_⟩
    rw[tvapp]
    refine fin _ _ (tl++[some t]) (((Same.trans s1 u2).wr hd).wr hlH) (by rw[Zf hdl,Zd]) Zd (by omega) (by rw[List.length_append,htl];rfl) (fun t' ht=>?_) ((hC.app (by omega)).succ fun t' z x hx=>?_) (((hK.put _ _ _).put _ _ _).iff fun x t'=>?_)
    ·rcases List.mem_append.mp ht with z|z
     ·exact hb t' z
     ·rw[List.mem_singleton]at z;cases z;exact tm
    ·rw[happ]at z
     cases z
     rw[Used.app (by omega)]
     rcases hx with rfl|rfl
     ·exact nu1
     ·exact nu2
    ·rw[Used.succ,Used.app (by omega),happ]
     constructor
     ·rintro((z|⟨rfl,rfl⟩)|⟨rfl,rfl⟩)
      ·exact .inl z
      ·exact .inr ⟨rfl,.inl rfl⟩
      ·exact .inr ⟨rfl,.inr rfl⟩
     ·rintro(z|⟨z,hx⟩)
      ·exact .inl (.inl z)
      ·cases z
       rcases hx with rfl|rfl
       ·exact .inl (.inr ⟨rfl,rfl⟩)
       ·exact .inr ⟨rfl,rfl⟩
  refine⟨_,Zb (Zj (i:=4) scTi.nd rfl (Or.inl rfl) (Yd Za))
   (Zb (Zj (i:=5) scTi.nd rfl (Or.inl rfl) ZaV)
   (Zb (ZL PassesOwn.never rfl (Yi rfl T.range (Zc (Zn Zx rfl T.len YD (Zc (Zl Zo (pv 2) Ze (fun _ _=>rfl)) Za)) Za)) (Zq (i:=6) scTi.nd rfl (Or.inl rfl))
    (Zb (Yq (Zl Zo (Zl Zo (pv 2) Ze (fun _ _=>rfl)) (pv 6) (fun _ _=>rfl)) (YB rfl (Zy (Zq (i:=7) scTi.nd rfl (Or.inl rfl)) (Zy (Zq (i:=8) scTi.nd rfl (Or.inl rfl)) Ya))))
    (Zb (Zj (i:=9) scTi.nd rfl (Or.inl rfl) (Zw FD hr (Zc (pv 0) (Zc (Zp Z4 (pv 1) (pv 6)) Za))))
    (Zb (Zj (i:=10) scTi.nd rfl (Or.inl rfl) ZM)
    (Zb (ZL PassesOwn.never rfl (Yi rfl T.range (Zc (Zn Zx rfl T.len YD (Zc (pv 3) Za)) Za)) (Zq (i:=11) scTi.nd rfl (Or.inl rfl))
      (Zb (Zj (i:=12) scTi.nd rfl (Or.inl rfl) (Zl Z6 (pv 3) (Zp ZG (Zp Z4 (Zp JW (pv 9) Ze) (pv 11)) (Zn Zx rfl T.len YD (Zc (pv 3) Za))) (fun _ _=>rfl)))
      (Zg (Z0 (PW.pt (pw_and (Zm Zcj (pv 10) ZM (Zv _))
       (pw_and (JE (J0 hu (Z5 (Zc (pv 7) (Zc (pv 12) Za))) (pv 5)))
       (pw_and1 (JE (J0 hu (Z5 (Zc (pv 8) (Zc (pv 12) Za))) (pv 5)))))))
       (Zg (Zj (i:=10) scTi.nd rfl (Or.inl rfl) (pv 12))) Zt))))
    (Zb (Z0 (Zm ZI (Zp ZG (pv 9) Ze) Ze (Zv _)) (Zg (Zj (i:=10) scTi.nd rfl (Or.inl rfl) ZM)) Zt)
    hTT))))))
   (Zg (Zs (Z1 Z7 rfl T.tuple Yl (Zc (pv 4) Za)))))),?_⟩
  have h200:=N.l200
  have hlen:=N.len
  refine⟨Nat.zero_le _,fun l hl0=>?_⟩
  intro d hd0
  have hdl:d≠l:=fun z=>by subst z;rw[Zd]at hd0;cases hd0
  have hd:H d=none:=(Zi hl0).none hd0
  have s0:Same H (upd (upd H l (.lst [])) d (.dT [])):=(Zi hl0).wr hd
  refine⟨_,rfl,p,_,_,_,rfl,rfl,SqT.of (s0 _ _ N.e1),rfl,qa,_,rfl,.inr (SqT.of (s0 _ _ N.e2)),_,rfl,by omega,by omega,Yz (lo:=0) (n:=((ts.length:Nat):Int).toNat) (fun k σ H'=>∃kvs tl v6 v7 v8 v9 v10 v11 v12,σ=[some (.ref a),some (.int at'),some (.ref p),some (.ref me),some (.ref l),some (.ref d),v6,v7,v8,v9,v10,v11,v12]/\Same H H'/\H' d=some (.dT kvs)/\H' l=some (.lst (tv tl))/\kvs.length<=2*k/\tl.length=k/\(∀t,some t∈tl->t∈mn)/\CleanTo es tl k/\Keys kvs (Used es tl k))
   ⟨[],[],_,_,_,_,_,_,_,rfl,s0,Zd,(by rw[Zf (Ne.symm hdl),Zd];rfl),Nat.le_refl _,rfl,(fun t ht=>by cases ht),CleanTo.zero _ _,fun p t=>⟨(fun z=>by cases z),fun z=>absurd z Used.zero⟩⟩ (fun k σ H' hk xq1=>?_) (fun σ H' xq1=>?_)⟩
  ·obtain⟨kvs,tl,v6,v7,v8,v9,v10,v11,v12,e,sH,hD,hL,hkv,htl,hb,hC,hK⟩:=xq1
   subst e
   have hke:k<es.length:=by omega
   obtain⟨tk,htk,hta⟩:=N.at' hke
   refine⟨_,rfl,p,_,_,_,rfl,rfl,SqT.of (sH _ _ N.e1),rfl,_,rfl,qa,_,_,_,rfl,rfl,SqT.of (sH _ _ N.e2),(by rw[Int.zero_add];exact Z3 htk),tk,_,rfl,SqT.of (sH _ _ hta),rfl,_,_,rfl,_,_,rfl,rfl,_,rfl,_,rfl,_,rfl,_,_,rfl,rfl,a,ns,_,rfl,sH.seq hS,hl,by omega,by omega,?_⟩
   have nn:=Zec ns (at'+(0+(k:Int)))
   generalize hdr:draw ns (at'+(0+(k:Int)))=num at*
   refine⟨_,rfl,me,_,rfl,.inl (SqL.of (sH _ _ hMe)),_,rfl,by omega,(by rw[nl_len];omega),Yz (lo:=0) (n:=(((nl mn).length:Nat):Int).toNat) (fun st σ G=>∃(mine:Option Nat)(w11 w12:Option V),σ=[some (.ref a),some (.int at'),some (.ref p),some (.ref me),some (.ref l),some (.ref d),some (.int (0+(k:Int))),some (.int ((es.getD k (0,0)).1:Int)),some (.int ((es.getD k (0,0)).2:Int)),some (.int num),some (tN mine),w11,w12]/\Same H G/\G d=some (.dT kvs)/\G l=some (.lst (tv tl))/\∀t,mine=some t->t∈mn/\¬Used es tl k (es.getD k (0,0)).1 t/\¬Used es tl k (es.getD k (0,0)).2 t)
     ⟨none,_,_,rfl,sH,hD,hL,fun t z=>by cases z⟩ (fun st σ G hst xq1=>?_) (fun σ G xq1=>?_)⟩
   ·obtain⟨mine,w11,w12,e,sG,gD,gL,gm⟩:=xq1
    subst e
    rw[nl_len]at hst
    have hml:0<mn.length:=by omega
    obtain⟨j,hj,hjl⟩:∃j:Nat,(num/8+(0+(st:Int)))%((nl mn).length:Int)=(j:Int)/\j<mn.length:=by
     rw[nl_len]
     have z1:=Yh (n:=num/8+(0+(st:Int))) (p:=(mn.length:Int)) (by omega)
     have z2:=Yn (n:=num/8+(0+(st:Int))) (p:=(mn.length:Int)) (by omega)
     exact⟨((num/8+(0+(st:Int)))%(mn.length:Int)).toNat,by omega,by omega⟩
    have hx:=List.getElem?_eq_getElem hjl
    generalize mn[j]=t at hx
    have htm:t∈mn:=List.mem_of_getElem? hx
    refine⟨_,rfl,_,rfl,_,_,rfl,rfl,⟨by decide,by decide⟩,_,rfl,_,_,rfl,rfl,_,rfl,me,_,rfl,.inl (SqL.of (sG _ _ hMe)),_,_,rfl,rfl,(by show(0:Int)<((nl mn).length:Int);rw[nl_len];omega),me,_,_,_,rfl,rfl,SqL.of (sG _ _ hMe),(by rw[hj];exact Z3 (nl_get hx)),_,rfl,rfl,_,rfl,ZF (fun hz=>?_) (fun hz=>?_)⟩
    ·refine⟨_,rfl,_,rfl,rfl,fun t1 G1 u1 h1=>⟨_,rfl,d,_,rfl,DGet.t (k:=ky (es.getD k (0,0)).1 t) (u1 _ _ gD) h1,_,rfl,ZF (fun hz1=>?_) (fun hz1=>?_)⟩⟩
     ·refine⟨_,rfl,_,rfl,rfl,fun t2 G2 u2 h2=>⟨_,rfl,d,_,rfl,DGet.t (k:=ky (es.getD k (0,0)).2 t) (u2 _ _ (u1 _ _ gD)) h2,_,rfl,ZF (fun hz2=>?_) (fun hz2=>?_)⟩⟩
      ·refine⟨_,rfl,some t,_,_,rfl,Same.trans (Same.trans sG u1) u2,u2 _ _ (u1 _ _ gD),u2 _ _ (u1 _ _ gL),fun t' e'=>?_⟩
       cases e'
       refine⟨htm,fun z=>?_,fun z=>?_⟩
       ·rw[(hK _ _).mpr z]at hz1;cases hz1
       ·rw[(hK _ _).mpr z]at hz2;cases hz2
      ·exact⟨mine,_,_,rfl,Same.trans (Same.trans sG u1) u2,u2 _ _ (u1 _ _ gD),u2 _ _ (u1 _ _ gL),gm⟩
     ·exact ZD ⟨mine,_,_,rfl,Same.trans sG u1,u1 _ _ gD,u1 _ _ gL,gm⟩
    ·exact ZD ⟨mine,_,_,rfl,sG,gD,gL,gm⟩
   ·obtain⟨mine,w11,w12,e,sG,gD,gL,gm⟩:=xq1
    subst e
    refine⟨_,rfl,_,_,rfl,rfl,(by show(0:Int)<8;decide),rfl,_,rfl,ZF (fun _=>?_) (fun _=>?_)⟩
    ·exact rT _ k kvs tl none G _ _ _ hke sG gD gL hkv htl hb hC hK (fun t z=>by cases z) hd hl0 fun G' kvs' tl' h1 h2 h3 h4 h5 h6 h7 h8=>⟨kvs',tl',_,_,_,_,_,_,_,rfl,h1,h2,h3,h4,h5,h6,h7,h8⟩
    ·exact rT _ k kvs tl mine G _ _ _ hke sG gD gL hkv htl hb hC hK gm hd hl0 fun G' kvs' tl' h1 h2 h3 h4 h5 h6 h7 h8=>⟨kvs',tl',_,_,_,_,_,_,_,rfl,h1,h2,h3,h4,h5,h6,h7,h8⟩
  ·obtain⟨kvs,tl,v6,v7,v8,v9,v10,v11,v12,e,sH,hD,hL,hkv,htl,hb,hC,hK⟩:=xq1
   subst e
   have e:((ts.length:Nat):Int).toNat=es.length:=by omega
   rw[e]at htl hC
   exact⟨_,rfl,l,_,rfl,.inl hL,fun r H2 s2 hr2=>q H2 r tl (Same.trans sH s2) hr2 htl hb hC⟩
end
end My
namespace L2
open PySem PySem.Spec PyProof.Rows
theorem PS.nox{X}{st}{t}(h:PS X.nox st t):PS X st t:=fun a s σ H D I b=>
 wpAny_mono (h a s σ H D (I.wish _) b) (fun _ _ q=>q.unwish) fun _ _ z=>False.elim z
section
variable{P:Program}{w:World}{K:PySem.W.Frag}{mg:Str->Option Value}{base:Heap}{k:Nat}{f:Addr}{fd:FuncData}{ps:List Str}{sp sp':Sp}
theorem FnOk.x(F:FnOk P w K mg base CX0 k f fd ps sp):FnOk P w K mg base (RX.CXe P w) k f fd ps sp:=by
 refine⟨F.len,fun A a s H b n i Q E m j d r h=>codeAny_mono (F.run A a s H b n i Q E m j d r h) fun g _ c=>?_⟩
 cases g with
 |error e=>exact False.elim c
 |_ l=>cases l<;>exact c
theorem FunD.okX{x qual}{st}{N:List _}(F:FunD K x qual st f fd)(S:Zr N ps (Zh st))(len:∀vs H Q E,sp vs H Q E->vs.length=ps.length)
  (hbody:∀(cdv:Value)(A:Around)(outer:List _)(s:Shared)(H:Hp)(vs:List V)(Q:VK)(E:XK),Room k (A.deeper (envOfC qual (Zh st) s.heap.objs.size f cdv))->sp vs H Q E->
   ∃t,PSs (Yk (RX.CXe P w) P w K mg base N qual (Zh st) f cdv A outer s H E) (ZK st) t/\t {nx:=fun _ H'=>Q .non H',rt:=Q} (start N vs) H):FnOk P w K mg base (RX.CXe P w) (k+1) f fd ps sp:=by
 obtain⟨_,_,_,kV,_,_,_,cdv,_,_,rfl,c,a⟩:=F.ex
 exact ZcR c a S len fun A outer s H vs Q E d b=>hbody _ A _ s H vs Q E d b
end
end L2
namespace My
open PySem L2
structure RingAt(H:Hp)(es:List (Nat×Nat))(n:Nat)(v:V)(R:List Nat)(m:Nat):Prop where
 at_:∃r,v= .ref r/\H r=some (.tup (nl R))
 len:R.length=2*m+1
 pos:1<=m
 lt:∀x∈R,x<n
 nd:R.Nodup
 tied:∀k,k<2*m+1->R.getD k 0∈Sd.adjF es es.length (R.getD (if k=0 then 2*m else k-1) 0)
theorem RingAt.same{H H':Hp}{es:List _}{n:Nat}{v:V}{R:List _}{m:Nat}(h:RingAt H es n v R m)(s:Same H H'):RingAt H' es n v R m:=
 ⟨let⟨r,a,b⟩:=h.at_;⟨r,a,s _ _ b⟩,h.len,h.pos,h.lt,h.nd,h.tied⟩
structure GrF(P:Program)(w:World)(K:PySem.W.Frag)(mg:Str->Option Value)(base:Heap)(x f:Str)(C:Addr):Prop where
 ex:∃D fI fdI,RX.XCl K C D/\PySem.W.findIn K (.ref C) "__init__"=some (some (.ref fI))/\PySem.W.isFn K (.ref fI)=true/\FnOk P w K mg base CX0 1 fI fdI ["self",f] (RX.ZaN C f)/\L2.Binds K fdI ["self",f] []
 g:mg x=some (.ref C)
section
variable{P:Program}{w:World}{K:PySem.W.Frag}{mg:Str->Option Value}{base:Heap}{cM cR cA cT:Addr}
abbrev sIr:Stmt:=inClass (top 21) 0
theorem Zl8:Zr ["self","ring"] ["self","ring"] (Zh sIr):=⟨rfl,rfl,rfl,by decide+kernel,rfl,by decide+kernel,by decide+kernel⟩
theorem Zkk{f C D}{fd}(F:Fun K "__init__" "NotTwoSided.__init__" sIr f fd)(c:RX.XCl K C D)(hn:PySem.W.findIn K (.ref C) "ring"=some none):FnOk P w K mg base CX0 1 f fd ["self","ring"] (RX.ZaN C "ring"):=by
 refine F.ok Zl8 (fun g H Q E h=>?_) (fun _ A _ s H g Q E _ h=>?_)
 ·obtain⟨e,a,y,rfl,_⟩:=h
  rfl
 ·obtain⟨e,a,y,rfl,i,q⟩:=h
  exact⟨_,Zg (RX.ZdP (pv 0) (pv 1) rfl),_,rfl,_,rfl,e,C,D,a,rfl,i,c,hn,fun j d b=>q j d b⟩
abbrev sTf:Stmt:=inClass (top 23) 0
theorem Zl4:Zr ["self","need"] ["self","need"] (Zh sTf):=⟨rfl,rfl,rfl,by decide+kernel,rfl,by decide+kernel,by decide+kernel⟩
theorem ZjX{f C D}{fd}(F:Fun K "__init__" "TooFew.__init__" sTf f fd)(c:RX.XCl K C D)(hn:PySem.W.findIn K (.ref C) "need"=some none):FnOk P w K mg base CX0 1 f fd ["self","need"] (RX.ZaN C "need"):=by
 refine F.ok Zl4 (fun g H Q E h=>?_) (fun _ A _ s H g Q E _ h=>?_)
 ·obtain⟨e,a,y,rfl,_⟩:=h
  rfl
 ·obtain⟨e,a,y,rfl,i,q⟩:=h
  exact⟨_,Zg (RX.ZdP (pv 0) (pv 1) rfl),_,rfl,_,rfl,e,C,D,a,rfl,i,c,hn,fun j d b=>q j d b⟩
def RgE(cR:Addr)(H:Hp)(es:List (Nat×Nat))(n:Nat)(E:XK):Prop:=∀H' dx v rg m,Same H H'->H' dx=none->RingAt H' es n v rg m->E (.ref cR) (some dx) (upd H' dx (.xd [("ring",v)]))
theorem RgE.same{cR}{H H1}{es}{n}{E}(h:RgE cR H es n E)(s:Same H H1):RgE cR H1 es n E:=fun c b v a m d=>h c b v a m (Same.trans s d)
inductive Zin(cR:Addr)(vs:List V)(H:Hp)(_z2:VK)(E:XK):Prop
 |mk (s p n q ts es:_) (_:vs=[.ref s,.ref p]) (_:NetZ H p n q ts es) (_:¬Two es) (_:RgE cR H es n E)
theorem Zku{f}{fd}(F:Fun K "asked" "TwoSided.asked" sAk f fd)(G:GrF P w K mg base "NotTwoSided" "ring" cR)(FS:FnE P w K mg base "sides" ["net"] 2 Sd.spSd):FnOk P w K mg base (RX.CXe P w) 3 f fd ["self","net"] (Zin cR):=by
 obtain⟨D,fI,fdI,c,hi,z,FI,hb⟩:=G.ex
 refine RX.JZ F scAk (fun vs H Q E h=>?_) (fun cdv A _ s H vs Q E L h=>?_)
 ·obtain⟨s,p,n,q,ts,l,rfl,_⟩:=h
  rfl
 ·obtain⟨sf,p,n,qa,ts,l,rfl,N,q2,q1⟩:=h
  refine⟨_,Zb (PS.nox (Zj (i:=2) scAk.nd rfl (Or.inl rfl) (Zw FS (show Room 2 _ from L.mono (by omega)) (Zc (pv 1) Za)))) (Zb (Z0 (PT.nox (Zm ZI (Zl Zo (pv 2) Ze (fun _ _=>rfl)) ZT (Zv _))) (Zg (RX.ZbD c hi z FI L hb rfl G.g (Zc (Zl Zo (pv 2) Ze (fun _ _=>rfl)) Za) rfl rfl rfl (fun _ _ h=>h))) Zt) Z8),_,rfl,p,n,qa,ts,l,rfl,⟨N.e1,N.e2,N.len,N.tie,N.l200,N.n60,N.ok⟩,fun M t r v R C o ho _=>absurd ?_ q2,fun M t r d a b m R C o _ _ _ y=>?_⟩
  ·obtain⟨V0,rt,O⟩:=ho
   refine⟨fun x=>decide (v x=some 0),fun e he=>?_⟩
   obtain⟨k,hk⟩:=List.getElem?_of_mem he
   have I:=(List.getElem?_eq_some_iff.mp hk).1
   have j:l.getD k (0,0)=e:=by grind
   have u:=(Sd.mem_adjF l e.1 e.2 l.length).mpr ⟨k,I,.inl ⟨by rw[j],by rw[j]⟩⟩
   have S:=O.all e.1 (N.ok e he).1
   obtain⟨J,hne⟩:=O.shut.cl _ S _ u
   rcases O.bit _ S with z1|z1<;>rcases O.bit _ J with z2|z2
   ·grind
   ·grind
   ·grind
   ·grind
  ·exact⟨_,rfl,t,_,_,_,rfl,rfl,SqT.of C,rfl,rfl,_,rfl,YA ⟨_,rfl,t,_,_,_,rfl,rfl,SqT.of C,rfl,_,rfl,fun dx B=>(q1 M dx (.ref r) (Sd.ring (Sd.parOf d) a b m) m R B ⟨⟨r,rfl,o⟩,Sd.ring_len _ _ _ _,y.1,y.2.1,y.2.2.1,y.2.2.2⟩)⟩⟩
inductive ZhD(cM cR:Addr)(vs:List V)(H:Hp)(_z2:VK)(E:XK):Prop
 |mk (p s n q ts es dx:_) (_:vs=[.ref p,.ref s]) (_:NetZ H p n q ts es) (_:H s=some (.ins cM dx [])) (_:¬Two es) (_:RgE cR H es n E)
theorem ZiE{f fA}{fd fdA}(F:FunD K "tinted" "tinted" ZgH f fd)(FW:FnE P w K mg base "way_or_manifold" ["way"] 8 spWm)(hC:Cls K cM)(hA:ZdI K cM "asked" fA)(FA:FnOk P w K mg base (RX.CXe P w) 3 fA fdA ["self","net"] (Zin cR))(bA:L2.Binds K fdA ["self","net"] []):
  FnOk P w K mg base (RX.CXe P w) 9 f fd ["net","way"] (ZhD cM cR):=by
 refine F.okX scTd2 (fun l H Q E h=>?_) (fun _ A _ s H l Q E d h=>?_)
 ·obtain⟨p,s,n,q,e,c,g,rfl,_⟩:=h
  rfl
 ·obtain⟨p,b,n,j,e,c,g,rfl,N,k,a,q⟩:=h
  refine⟨_,Zb (PS.nox (Zj (i:=2) scTd2.nd rfl (Or.inl rfl) (Zw FW d (Zc (pv 1) Za))))
   (Zb (ZH (Zcg (pv 2) hC hA FA (show Room 3 _ from d.mono (by omega)) bA .nil (RX.Zf5 fun _ _ _ z=>z) (Zc (pv 0) Za))) Z8),?_⟩
  exact⟨_,rfl,b,rfl,_,rfl,b,g,_,rfl,k,rfl,_,rfl,b,p,n,j,e,c,rfl,N,a,q⟩
inductive Zfk(cR:Addr)(vs:List V)(H:Hp)(_z2:VK)(E:XK):Prop
 |mk (p n q ts es:_) (_:vs=[.ref p]) (_:NetZ H p n q ts es) (_:¬Two es) (_:RgE cR H es n E)
theorem ZiQ{f fT}{fd fdT}(F:Fun K "all_meet" "all_meet" sAm f fd)(gM:mg "TwoSided"=some (.ref cM))(mM:Mk0 K cM)(FT:FnOk P w K mg base (RX.CXe P w) 9 fT fdT ["net","way"] (ZhD cM cR))(gT:mg "tinted"=some (.ref fT))(kT:PySem.W.keepIn K (.ref fT)=true)(bT:L2.Binds K fdT ["net","way"] [])(FO:FnE P w K mg base "ties_of_tint" ["tints","tint"] 9 spTo):
  FnOk P w K mg base (RX.CXe P w) 10 f fd ["net"] (Zfk cR):=by
 refine RX.JZ F ZjB (fun o H Q E h=>?_) (fun _ A _ s H o Q E k h=>?_)
 ·obtain⟨p,n,q,j,l,rfl,_⟩:=h
  rfl
 ·obtain⟨p,n,m,j,l,rfl,N,b,q⟩:=h
  refine⟨_,Zg (Zs (Zw FO k (Zc (ZdT FT k rfl gT kT bT .nil (RX.Zf5 fun _ _ _ z=>z) (Zc (pv 0) (Zc (Zan mM rfl gM) Za))) (Zc Ze Za)))),_,rfl,fun c a g e d=>?_⟩
  have i:Same H (upd (upd H a (.own c)) c (.ins cM a [])):=Same.trans (Zi e) (Zi (by rw[Zf (Ne.symm d)];exact g))
  exact⟨p,c,n,m,j,l,a,rfl,N.same i,Zd,b,q.same i⟩
def ZhF(cR:Addr):Sp:=Zfk cR
theorem ZiG{f fA}{fd fdA}(F:Fun K "rounds" "rounds" sRd f fd)(gM:mg "TwoSided"=some (.ref cM))(mM:Mk0 K cM)(hC:Cls K cM)(hA:ZdI K cM "asked" fA)(FA:FnOk P w K mg base (RX.CXe P w) 3 fA fdA ["self","net"] (Zin cR))(bA:L2.Binds K fdA ["self","net"] []):
  FnOk P w K mg base (RX.CXe P w) 10 f fd ["net"] (ZhF cR):=by
 refine RX.JZ F scRd (fun o H Q E h=>?_) (fun _ A _ s H o Q E m h=>?_)
 ·obtain⟨p,n,q,k,j,rfl,_⟩:=h
  rfl
 ·obtain⟨p,n,l,k,j,rfl,N,c,q⟩:=h
  refine⟨_,Zb (ZH (Zcg (Zan mM rfl gM) hC hA FA (show Room 3 _ from m.mono (by omega)) bA .nil (RX.Zf5 fun _ _ _ z=>z) (Zc (pv 0) Za))) Z8,?_⟩
  intro a b g e d
  have i:Same H (upd (upd H b (.own a)) a (.ins cM b [])):=Same.trans (Zi e) (Zi (by rw[Zf (Ne.symm d)];exact g))
  exact⟨a,b,_,rfl,Zd,rfl,_,rfl,a,p,n,l,k,j,rfl,N.same i,c,q.same i⟩
inductive ZhG(cA:Addr)(vs:List V)(H:Hp)(_z2:VK)(E:XK):Prop
 |mk (p:Addr) (n:Nat) (q:Addr) (ts:List V) (es:List (Nat×Nat)) (m:Nat) (_:vs=[.ref p]) (_:NetZ H p n q ts es) (_:Two es) (_:IsMax (dl es n) m) (_:(∃x,x<n/\dg es es.length x≠m)) (_:∀H',Same H H'->E (.ref cA) none H')
theorem ZiH{f D}{fd}(F:Fun K "rounds" "rounds" sRd f fd)(T:Bi mg)(hall:mg "all"=none)(gM:mg "TwoSided"=some (.ref cM))(mM:Mk0 K cM)(MA:MeE P w K mg base cM "asked" ["self","net"] 9 spAk)(FMo:FnE P w K mg base "most_of" ["net"] 9 spMo)(FC:FnE P w K mg base "crowd" ["net","point"] 9 spCr)
  (c:RX.Zcx K cA D=true)(cn:RX.Zen K cA=true)(kp:PySem.W.keepIn K (.ref cA)=true)(gA:mg "NotAlike"=some (.ref cA)):FnOk P w K mg base (RX.CXe P w) 10 f fd ["net"] (ZhG cA):=by
 refine RX.JZ (k:=9) F scRd (fun vs H Q E h=>?_) (fun cdv A outer s H vs Q E hr h=>?_)
 ·obtain⟨p,n,q,ts,b,m,rfl,_⟩:=h
  rfl
 ·obtain⟨p,n,qa,ts,b,m,rfl,N,hTw,hmx,⟨x,hx,hxm⟩,q⟩:=h
  refine⟨_,Zb (PS.nox (ZH (Zav MA hr (Zan mM rfl gM) (Zc (pv 0) Za))))
   (Zb (PS.nox (Zj (i:=1) scRd.nd rfl (Or.inr rfl) (Zw FMo hr (Zc (pv 0) Za))))
   (Zb (Z0 (PT.nox (Yc (ZS (Zn (ZcZ rfl) rfl hall Zlf (Zc (ZaU (ZhV (E:=E)) rfl rfl T.range (Zc (Zl Zo (pv 0) Ze (fun _ _=>rfl)) Za) (Z2 (YU (Z9 0) (Zar _)) ZY) rfl (fun C fp s H=>Zq (i:=0) Zk5 rfl (Or.inl rfl)) (fun C fp s H=>JR)
     (fun C fp s H=>YH ZI (Zw FC hr (Zc (pv 2) (Zc (pv 0) Za))) (pv 1) (Zv _))) Za))))) (Zg (RX.Ze1 c cn kp hr rfl gA rfl rfl rfl (fun _ _ h=>h))) Zt) Z8)),?_⟩
  have h60:=N.n60
  intro sw dx hsw hdx hne
  have s1:Same H (upd (upd H dx (.own sw)) sw (.ins cM dx [])):=Same.trans (Zi hdx) (Zi (by rw[Zf (Ne.symm hne)];exact hsw))
  refine⟨sw,dx,_,rfl,Zd,rfl,_,rfl,sw,p,n,qa,ts,b,rfl,N.same s1,hTw,fun H0 s0=>?_⟩
  have s10:=Same.trans s1 s0
  refine⟨_,rfl,p,n,qa,ts,b,rfl,N.same s10,fun H1 M s11 hMx=>?_⟩
  have e:=hMx.uniq hmx
  subst e
  have s2:=Same.trans s10 s11
  refine⟨_,rfl,p,_,_,_,rfl,rfl,SqT.of (s2 _ _ N.e1),rfl,n,rfl,by omega,fun i ys σ G=>Same H1 G/\ys=((List.range i).map fun k=>decide (dg b b.length k=m)).map V.bl/\∃v0,σ=[v0,some (.int (m:Int)),some (.ref p)],⟨Same.refl _,rfl,none,rfl⟩,fun i ys σ G hi⟨_,e,_⟩=>by rw[e,List.length_map,List.length_map,List.length_range];exact Nat.le_refl _,fun i ys σ G hi xq1=>?_,fun ys σ G xq1 l G2 sl hl=>?_⟩
  ·obtain⟨sG,e1,v0,e2⟩:=xq1
   subst e1 e2
   refine⟨_,rfl,_,rfl,p,n,qa,ts,b,i,(by rw[Int.zero_add];rfl),N.same (Same.trans s2 sG),fun G2 sg2=>⟨_,rfl,rfl,Same.trans sG sg2,?_,_,rfl⟩⟩
   rw[List.range_succ,List.map_append,List.map_append]
   congr 2
   by_cases z:dg b b.length i=m
   ·rw[z,decide_eq_true rfl]
    show V.bl true=V.bl (decide (dg b b.length i=m))
    rw[decide_eq_true z]
   ·rw[decide_eq_false (fun y=>z (by have:=V.int.inj y;omega))]
    show V.bl false=V.bl (decide (dg b b.length i=m))
    rw[decide_eq_false z]
  ·obtain⟨sG,e1,_⟩:=xq1
   subst e1
   refine⟨l,_,rfl,SqL.of hl,_,rfl,?_⟩
   have ea:((List.range n).map fun k=>decide (dg b b.length k=m)).all id=false:=by
    rw[List.all_eq_false]
    exact⟨false,List.mem_map.mpr ⟨x,List.mem_range.mpr hx,decide_eq_false hxm⟩,by simp⟩
   rw[ea]
   exact YA (q G2 (Same.trans s2 (Same.trans sG sl)))
def Grt(tl:List (Option Nat))(d:Int):Prop:=(∃t,some t∈tl/\d=t+1)/\∀t,some t∈tl->t+1<=d
inductive ZhK(cT:Addr)(vs:List V)(H:Hp)(_z2:VK)(E:XK):Prop
 |mk (p r tl m:_) (_:vs=[.ref p,.ref r,.int m]) (_:H r=some (.tup (tv tl))) (_:tl.length<=1000) (_:(∃t,some t∈tl/\m<t+1)) (_:∀H' dx d,Same H H'->H' dx=none->Grt tl d->E (.ref cT) (some dx) (upd H' dx (.xd [("need",.int d)])))
theorem ZiN{f}{fd}(F:Fun K "evened" "evened" sEv f fd)(hmax:mg "max"=none)(G:GrF P w K mg base "TooFew" "need" cT):FnOk P w K mg base (RX.CXe P w) 8 f fd ["net","tints","many"] (ZhK cT):=by
 obtain⟨D,fI,fdI,c,hi,T,FI,hb⟩:=G.ex
 refine RX.JZ F scEv (fun vs H Q E h=>?_) (fun cdv A _ s H vs Q E hr h=>?_)
 ·obtain⟨p,r,v,m,rfl,_⟩:=h
  rfl
 ·obtain⟨p,r,v,m,rfl,hR,hl,⟨Y,n,hm0⟩,q⟩:=h
  refine⟨_,Zb (PS.nox (Zj (i:=3) scEv.nd rfl (Or.inl rfl) (Za8 rfl (Zch (ZhW (E:=E)) rfl (pv 1) (Z9 1) (fun C fp s H=>Zq (i:=0) Zk6 rfl (Or.inl rfl)) (fun C fp s H=>Y8 (Zm Y9 (pv 0) ZM rfl)) (fun C fp s H=>Zp Z4 (pv 0) Ze)) Ze rfl hmax)))
   (Zb (Z0 (PT.nox (Zm Zax (pv 2) (pv 3) (Zv _))) (Zg (RX.ZbD c hi T FI (show Room 2 _ from hr.mono (by omega)) hb rfl G.g (Zc (pv 3) Za) rfl rfl rfl (fun _ _ h=>h))) Zt) Z8),?_⟩
  refine⟨_,rfl,r,_,rfl,SqT.of hR,(by rw[Yp];omega),fun i N σ G=>Same H G/\(∃L,N=L.map V.int/\L.length<=i/\(∀x∈L,∃t,some t∈v/\x=(t:Int)+1)/\∀(j t),j<i->v[j]?=some (some t)->(t:Int)+1∈L)/\∃v0,σ=[v0],⟨Same.refl _,⟨[],rfl,Nat.le_refl _,(fun x S=>by cases S),fun j t h=>absurd h (Nat.not_lt_zero _)⟩,none,rfl⟩,fun i N σ G hi⟨k,⟨L,u,W,_⟩,_⟩=>⟨SqT.of (k _ _ hR),by rw[u,List.length_map];exact W⟩,fun i y N σ G hy xq1=>?_,fun N σ G xq1 l G1 s1 O=>?_⟩
  ·obtain⟨k,⟨L,u,W,I,B⟩,v0,e5⟩:=xq1
   subst u e5
   obtain⟨o,R,rfl⟩:=Jk hy
   refine⟨_,rfl,rfl,_,rfl,?_⟩
   cases o with
   |none=>
    refine ZD ⟨k,⟨L,rfl,by omega,I,fun j t J b=>?_⟩,_,rfl⟩
    by_cases d:j=i
    ·subst d;rw[R]at b;cases b
    ·exact B j t (by omega) b
   |some t=>
    refine YA ⟨_,rfl,_,_,rfl,rfl,k,⟨L++[(t:Int)+1],by rw[List.map_append];rfl,by rw[List.length_append];show L.length+1<=i+1;omega,fun x S=>?_,fun j t' J b=>?_⟩,_,rfl⟩
    ·rcases List.mem_append.mp S with z|z
     ·exact I x z
     ·exact⟨t,List.mem_of_getElem? R,List.mem_singleton.mp z⟩
    ·by_cases d:j=i
     ·subst d;rw[R]at b;cases b
      exact List.mem_append.mpr (.inr (.head _))
     ·exact List.mem_append.mpr (.inl (B j t' (by omega) b))
  ·obtain⟨k,⟨L,u,W,I,B⟩,_⟩:=xq1
   subst u
   refine⟨l,L,rfl,SqL.of O,fun M hM=>?_⟩
   have e:∀t,some t∈v->(t:Int)+1∈L:=fun t b=>by
    obtain⟨j,J⟩:=List.getElem?_of_mem b
    exact B j t (by rw[Yp];exact(List.getElem?_eq_some_iff.mp J).1) J
   have X:Grt v M:=by
    rcases hM with⟨z,_⟩|⟨z1,z2⟩
    ·rw[z]at e;cases e Y n
    ·exact⟨I M z1,fun t b=>z2 _ (e t b)⟩
   refine⟨_,rfl,_,rfl,_,_,rfl,rfl,_,rfl,ZF (fun _=>?_) (fun z=>absurd (decide_eq_true ?_) z)⟩
   ·exact⟨_,rfl,_,rfl,fun dx U=>q G1 dx M (Same.trans k s1) U X⟩
   ·have:=X.2 Y n
    omega
end
end My
namespace L2
open PySem
theorem ZcO{X}{K}(hK:X.K=K):IxR X (ZjI K):=by
 subst hK
 exact Z6
end L2
namespace My
open PySem L2
structure Sdz(es:List (Nat×Nat))(n:Nat)(sd:List Nat):Prop where
 len:sd.length=2*n
 lt:∀x∈sd,x<2*n
 ok:∀f:Nat->Bool,(∀e∈es,f (2*e.1)=f (2*e.2+1)/\f (2*e.1+1)=f (2*e.2))->∀(i x:Nat),sd[i]?=some x->f x=f i
theorem sum_set:∀{l:List Nat}{i y}(x),l[i]?=some y->(l.set i x).sum+y=l.sum+x
 |[],_,_,_,h=>by cases h
 |a::l,0,y,x,h=>by
  grind
 |a::l,i+1,y,x,h=>by
  have:=sum_set (i:=i) x h
  rw[List.set_cons_succ,List.sum_cons,List.sum_cons]
  omega
theorem Zlz(es)(n):Sdz es n (List.range (2*n)):=by
 refine⟨List.length_range,fun x a=>List.mem_range.mp a,fun f _ i x h=>?_⟩
 rw[List.getElem?_eq_some_iff]at h
 grind
theorem Sdz.set{es:List _}{n a b u v:Nat}{sd:List _}(h:Sdz es n sd)(ha:sd[a]?=some u)(hb:sd[b]?=some v)(hab:a≠b)(hf:∀f:Nat->Bool,(∀e∈es,f (2*e.1)=f (2*e.2+1)/\f (2*e.1+1)=f (2*e.2))->f a=f b)
  {w:Nat} (hw:w=u\/w=v) (hu:w<=u) (hv:w<=v) (hne:u≠w\/v≠w):Sdz es n ((sd.set a w).set b w)/\((sd.set a w).set b w).sum<sd.sum:=by
 have _:=(List.getElem?_eq_some_iff.mp ha).1
 refine⟨⟨by rw[List.length_set,List.length_set];exact h.len,fun x c=>?_,fun f k i x c=>?_⟩,?_⟩
 ·have j:w<2*n:=by
   rcases hw with z|z
   ·rw[z];exact h.lt _ (List.mem_of_getElem? ha)
   ·rw[z];exact h.lt _ (List.mem_of_getElem? hb)
  rcases List.mem_or_eq_of_mem_set c with z|z
  ·rcases List.mem_or_eq_of_mem_set z with y|y
   ·exact h.lt x y
   ·rw[y];exact j
  ·rw[z];exact j
 ·have m:f w=f a/\f w=f b:=by
   have e:=hf f k
   rcases hw with z|z
   ·have:=h.ok f k a u ha;rw[z,this];exact⟨rfl,e⟩
   ·have:=h.ok f k b v hb;rw[z,this];exact⟨e.symm,rfl⟩
  by_cases d:i=b
  ·subst d
   rw[List.getElem?_set_self (by rw[List.length_set];exact((List.getElem?_eq_some_iff.mp hb).1))]at c
   cases c
   exact m.2
  ·rw[List.getElem?_set_ne (Ne.symm d)]at c
   by_cases o:i=a
   ·simp_all
   ·rw[List.getElem?_set_ne (Ne.symm o)]at c
    exact h.ok f k i x c
 ·have _:=sum_set w ha
  have _:=sum_set (l:=sd.set a w) w (by rw[List.getElem?_set_ne hab];exact hb)
  omega
def Agr(sd:List Nat)(e:Nat×Nat):Prop:=sd.getD (2*e.1) 0=sd.getD (2*e.2+1) 0/\sd.getD (2*e.1+1) 0=sd.getD (2*e.2) 0
theorem Jf{l:List _}{i}(h:i<l.length):l[i]?=some (l.getD i 0):=by
 grind
theorem two_iff{es}{n}{sd}(ok:∀e∈es,e.1<n/\e.2<n/\e.1≠e.2) (h:Sdz es n sd) (hA:∀e∈es,Agr sd e):(∀p,p<n->sd.getD (2*p) 0≠sd.getD (2*p+1) 0)↔Two es:=by
 constructor
 ·refine fun z=>⟨fun p=>decide (sd.getD (2*p) 0<sd.getD (2*p+1) 0),fun e d=>?_⟩
  obtain⟨_,_⟩:=hA e d
  grind
 ·rintro⟨c,j⟩ p _ e
  have b:=h.ok (fun i=>c (i/2) !=decide (i%2=1)) (fun e d=>by
   have _:=j e d
   rw[(show 2*e.1/2=e.1 by omega),(show(2*e.2+1)/2=e.2 by omega),(show(2*e.1+1)/2=e.1 by omega),(show 2*e.2/2=e.2 by omega),decide_eq_false (by omega),decide_eq_true (by omega),decide_eq_true (by omega),decide_eq_false (by omega)]
   grind)
  have _:=h.len
  have f:=b _ _ (Jf (i:=2*p) (by omega))
  have g:=b _ _ (Jf (i:=2*p+1) (by omega))
  rw[e]at f
  rw[f,(show 2*p/2=p by omega),(show(2*p+1)/2=p by omega),decide_eq_false (by omega),decide_eq_true (by omega)]at g
  grind
theorem Zk2{sd}{a b}:nl sd≠[.ref a,.ref b]:=fun z=>by
 cases sd with
 |nil=>cases z
 |_ x r=>cases z
theorem ZfF(sd)(k x:Nat):(nl sd).set k (.int x)=nl (sd.set k x):=by unfold nl;rw[List.map_set]
def TzI(H:Hp)(p D:Addr)(es:List (Nat×Nat))(n:Nat)(sd:List Nat)(ag:Bool)(σ:St)(G:Hp):Prop:=(∃v3 v4 v5 v6 v7:Option V,σ=[some (.ref p),some (.ref D),some (.bl ag),v3,v4,v5,v6,v7])/\Same H G/\G D=some (.lst (nl sd))/\Sdz es n sd
section
variable{P:Program}{w:World}{K:PySem.W.Frag}{mg:Str->Option Value}{base:Heap}
abbrev sTz:Stmt:=top 76
abbrev nTz:List Str:=["_law_net_here","_law_side","_law_again","_law_one","_law_other","_law_a","_law_b","_law_low"]
def tzE:Stmt->Expr
 | .Return (some (.Compare (.Call _ [e] _ _) _ _ _)) _=>e
 |_=> .Constant .none 0 ⟨0,0,0,0⟩
abbrev tzS:Scope:=compScope (tzE (stOf 76 3))
inductive spTz(vs:List V)(H:Hp)(Q:VK)(_z3:XK):Prop
 |mk (p n q ts es:_) (_:vs=[.ref p]) (_:NetZ H p n q ts es) (_:∀H' b,Same H H'->(b=true↔Two es)->Q (.bl b) H')
theorem ZlI:(["_law_point","_law_side"]:List Str).Nodup:=by decide+kernel
theorem scTz:Zr nTz ["_law_net_here"] (Zh sTz):=⟨rfl,rfl,rfl,by decide+kernel,rfl,by decide+kernel,by decide+kernel⟩
theorem ZkS{f}{cdv}{A}{outer}{s}{H}{E}:
  Blk (Yk CX0 P w K mg base nTz "_law_two_sides" (Zh sTz) f cdv A outer s H E).nox tzS [("_law_side",s.heap.objs.size+1)] ["_law_point","_law_side"] [none,some 1]:=by
 refine⟨rfl,rfl,by decide+kernel,by decide+kernel,fun p d=>?_,fun y g e=>?_,⟨rfl,rfl,rfl⟩,trivial⟩
 ·rw[List.mem_singleton.mp d]
  rfl
 ·have c:y∈[((PySem.Str.ofString _),NameKind.local),(PySem.Str.ofString _,.local),(PySem.Str.ofString _,.free)]:=g
  simp[List.mem_cons,List.not_mem_nil,or_false]at c
  grind
theorem ZjQ{f}{fd}(F:Fun K "_law_two_sides" "_law_two_sides" sTz f fd)(T:Bi mg):FnOk P w K mg base CX0 1 f fd ["_law_net_here"] spTz:=by
 refine F.ok scTz (fun vs H Q E h=>?_) (fun cdv A outer s H vs Q E hr h=>?_)
 ·obtain⟨p,n,q,ts,es,rfl,_⟩:=h
  rfl
 ·obtain⟨p,n,qa,ts,es,rfl,N,q⟩:=h
  have h60:=N.n60
  have h200:=N.l200
  have hlen:=N.len
  refine⟨_,Zb (Zj (i:=1) scTz.nd rfl (Or.inr rfl) (Z1 (Ji rfl) rfl T.list Zdb (Zc (Z1 Zbq rfl T.range ZdF (Zc (Zp Yv Ze (Zl Zo (pv 0) Ze (fun _ _=>rfl))) Za)) Za)))
   (Zb (Zj (i:=2) scTz.nd rfl (Or.inl rfl) ZE)
   (Zb (Jp PassesOwn.never (ZS (pv 2))
    (Zb (Zj (i:=2) scTz.nd rfl (Or.inl rfl) ZE)
    (Zg (ZL PassesOwn.never rfl (Yu (Zl Zo (pv 0) Ze (fun _ _=>rfl))) (YB rfl (Zy (Zq (i:=3) scTz.nd rfl (Or.inl rfl)) (Zy (Zq (i:=4) scTz.nd rfl (Or.inl rfl)) Ya)))
     (Zg (ZL PassesOwn.never rfl (JS (Ye (Zc (Z5 (Zc (Zp Yv Ze (pv 3)) (Zc (Zp Z4 (Zp Yv Ze (pv 4)) Ze) Za))) (Zc (Z5 (Zc (Zp Z4 (Zp Yv Ze (pv 3)) Ze) (Zc (Zp Yv Ze (pv 4)) Za))) Za)))) (YB rfl (Zy (Zq (i:=5) scTz.nd rfl (Or.inl rfl)) (Zy (Zq (i:=6) scTz.nd rfl (Or.inl rfl)) Ya)))
      (Zb (Zj (i:=7) scTz.nd rfl (Or.inl rfl) (Zn (ZbS rfl) rfl T.min Zji (Zc (Zl Z6 (pv 1) (pv 5) (fun _ _=>rfl)) (Zc (Zl Z6 (pv 1) (pv 6) (fun _ _=>rfl)) Za))))
      (Zg (Z0 (PW.pt (pw_or (Zm ZaZ (Zl Z6 (pv 1) (pv 5) (fun _ _=>rfl)) (pv 7) (Zv _)) (pw_or1 (Zm ZaZ (Zl Z6 (pv 1) (pv 6) (fun _ _=>rfl)) (pv 7) (Zv _)))))
       (Zb (Yq (pv 7) (Jd (pv 1) (pv 5) ZU)) (Zb (Yq (pv 7) (Jd (pv 1) (pv 6) ZU)) (Zg (Zj (i:=2) scTz.nd rfl (Or.inl rfl) ZE)))) Zt)))))))))
   (Zg (Zs (YH ZI (Zn Zx rfl T.len YD (Zc (ZaU ZkS rfl rfl T.range (Zc (Zl Zo (pv 0) Ze (fun _ _=>rfl)) Za) (Z2 (YU (Z9 0) (Zar _)) ZY) rfl (fun C fp s H=>Zq (i:=0) ZlI rfl (Or.inl rfl))
    (fun C fp s H=>Y8 (Zm ZI (Zl (ZcO (K:=K) rfl) (pv 1) (Zp Yv Ze (pv 0)) (fun _ _=>rfl)) (Zl (ZcO (K:=K) rfl) (pv 1) (Zp Z4 (Zp Yv Ze (pv 0)) Ze) (fun _ _=>rfl)) rfl)) (fun C fp s H=>pv 0)) Za)) Ze (Zv _)))))),_,rfl,p,_,_,_,rfl,rfl,SqT.of N.e1,rfl,_,_,rfl,rfl,.inl ⟨by decide,by decide⟩,_,rfl,fun pr hpr=>⟨pr,2*n,rfl,(by rw[Zd];congr 2),by omega,fun D hD=>?_⟩⟩
  have hDH:H D=none:=by
   by_cases z:D=pr
   ·rw[z,Zd]at hD;cases hD
   ·rw[Zf z]at hD;exact hD
  have s1:Same H (upd (upd H pr (.rng 0 (2*(n:Int)))) D (.lst ((Y6 (2*n)).map V.int))):=Same.trans (Zi hpr) (Zi hD)
  have g1:upd (upd H pr (.rng 0 (2*(n:Int)))) D (.lst ((Y6 (2*n)).map V.int)) D=some (.lst (nl (List.range (2*n)))):=by rw[Zd,Zbb];rfl
  generalize upd (upd H pr (.rng 0 (2*(n:Int)))) D (.lst ((Y6 (2*n)).map V.int))=G1 at s1 g1
  refine⟨fun k σ G=>∃(sd:List Nat)(ag:Bool),k=2*sd.sum+ag.toNat/\TzI H p D es n sd ag σ G/\(ag=false->∀e∈es,Agr sd e),
   ⟨_,List.range (2*n),true,rfl,⟨⟨_,_,_,_,_,rfl⟩,s1,g1,Zlz es n⟩,fun z=>by cases z⟩,?_⟩
  rintro k σ G ⟨sd,ag,rfl,⟨⟨v3,v4,v5,v6,v7,rfl⟩,SG,hG,hZ⟩,hAg⟩
  refine⟨_,rfl,_,rfl,?_⟩
  cases ag with
  |false=>
   refine ZD ?_
   have hZl:=hZ.len
   refine⟨_,rfl,p,_,_,_,rfl,rfl,SqT.of (SG _ _ N.e1),rfl,n,rfl,by omega,fun i ys σ G'=>Same G G'/\ys=nl ((List.range i).filter fun k=>decide (sd.getD (2*k) 0=sd.getD (2*k+1) 0))/\∃v0,σ=[v0,some (.ref D)],⟨Same.refl _,rfl,none,rfl⟩,fun i ys σ G' hi⟨_,e,_⟩=>by rw[e,nl_len];exact Nat.le_trans (List.length_filter_le _ _) (by rw[List.length_range];exact Nat.le_refl _),fun i ys σ G' hi xq1=>?_,fun ys σ G' xq1 l G2 sl hl=>?_⟩
   ·obtain⟨sG,e1,v0,e2⟩:=xq1
    subst e1 e2
    have ea:∀k,k<2*n->atI (nl sd) ((k:Nat):Int)=some (.int ((sd.getD k 0:Nat):Int)):=fun k hk=>Z3 (nl_get (Jf (by omega)))
    have z2:(2:Int)*(0+(i:Int))=((2*i:Nat):Int):=by omega
    have z3:(2:Int)*(0+(i:Int))+1=((2*i+1:Nat):Int):=by omega
    refine⟨_,rfl,_,rfl,_,_,rfl,rfl,.inl ⟨by decide,by decide⟩,D,_,_,_,rfl,rfl,SqL.of (sG _ _ hG),(by rw[z2];exact ea _ (by omega)),_,rfl,_,rfl,_,_,rfl,rfl,.inl ⟨by decide,by decide⟩,_,_,rfl,rfl,D,_,_,_,rfl,rfl,SqL.of (sG _ _ hG),(by rw[z3];exact ea _ (by omega)),rfl,_,rfl,ZF (fun hh=>⟨_,rfl,sG,?_,_,rfl⟩) (fun hh=>⟨sG,?_,_,rfl⟩)⟩
    ·have hz:sd.getD (2*i) 0=sd.getD (2*i+1) 0:=by have:=V.int.inj (of_decide_eq_true hh);omega
     rw[List.range_succ,List.filter_append,List.filter_cons,if_pos (decide_eq_true hz),Int.zero_add,List.filter_nil]
     exact nl_app _ _
    ·have hz:¬sd.getD (2*i) 0=sd.getD (2*i+1) 0:=fun y=>hh (decide_eq_true (by rw[y]))
     rw[List.range_succ,List.filter_append,List.filter_cons,if_neg (fun y=>hz (of_decide_eq_true y))]
     simp
   ·obtain⟨sG,e1,_⟩:=xq1
    subst e1
    refine⟨l,_,rfl,.inl (SqL.of hl),rfl,q G2 _ (Same.trans SG (Same.trans sG sl)) ?_⟩
    rw[nl_len,<-two_iff N.ok hZ (hAg rfl)]
    constructor
    ·intro y p' hp' e
     have h0:(((List.range n).filter fun k=>decide (sd.getD (2*k) 0=sd.getD (2*k+1) 0)).length:Int)=0:=V.int.inj (of_decide_eq_true y)
     have hm:p'∈(List.range n).filter fun k=>decide (sd.getD (2*k) 0=sd.getD (2*k+1) 0):=List.mem_filter.mpr ⟨List.mem_range.mpr hp',decide_eq_true e⟩
     have:=List.length_pos_of_mem hm
     omega
    ·intro y
     have h0:(List.range n).filter (fun k=>decide (sd.getD (2*k) 0=sd.getD (2*k+1) 0))=[]:=by
      rw[List.filter_eq_nil_iff]
      exact fun x hx z=>y x (List.mem_range.mp hx) (of_decide_eq_true z)
     rw[h0]
     rfl
  |true=>
   refine YA ⟨fun σ' G'=>∃m',m'<2*sd.sum+true.toNat/\∃(sd':List Nat)(ag:Bool),m'=2*sd'.sum+ag.toNat/\TzI H p D es n sd' ag σ' G'/\(ag=false->∀e∈es,Agr sd' e),fun _ _ h=>h,_,rfl,p,_,_,_,rfl,rfl,SqT.of (SG _ _ N.e1),rfl,qa,rfl,⟨_,SqT.of (SG _ _ N.e2)⟩,Yt (K:=K) (a:=qa) (xs:=ts) (fun i σ G=>∃(sd':List Nat)(ag:Bool),TzI H p D es n sd' ag σ G/\((ag=true/\sd'.sum<sd.sum)\/(ag=false/\sd'=sd/\∀j,j<i->Agr sd (es.getD j (0,0)))))
    ⟨sd,false,⟨⟨_,_,_,_,_,rfl⟩,SG,hG,hZ⟩,.inr ⟨rfl,rfl,fun j h=>absurd h (Nat.not_lt_zero _)⟩⟩ (fun i σ G _⟨_,_,z,_⟩=>SqT.of (z.2.1 _ _ N.e2)) (fun i x σ G hx xq1=>?_) (fun σ G xq1=>?_)⟩
   ·obtain⟨sd',ag,⟨⟨v3,v4,v5,v6,v7,e⟩,SG,hG,hZ⟩,hI⟩:=xq1
    subst e
    have hie:i<es.length:=by have:=(List.getElem?_eq_some_iff.mp hx).1;omega
    obtain⟨b,rfl,hbt⟩:=N.tie i x hx
    have hmem:=getD_mem hie
    obtain⟨X1,Y1,ne⟩:=N.ok _ hmem
    obtain⟨x1,hx1⟩:∃x1,(es.getD i (0,0)).1=x1:=⟨_,rfl⟩
    obtain⟨y1,hy1⟩:∃y1,(es.getD i (0,0)).2=y1:=⟨_,rfl⟩
    rw[hx1,hy1]at hbt ne
    rw[hx1]at X1
    rw[hy1]at Y1
    refine⟨b,_,rfl,SqT.of (SG _ _ hbt),rfl,_,_,rfl,_,_,rfl,rfl,_,rfl,_,_,rfl,rfl,.inl ⟨by decide,by decide⟩,_,rfl,_,_,rfl,rfl,.inl ⟨by decide,by decide⟩,_,_,rfl,rfl,rfl,fun t1 I1 u1 h1=>⟨_,rfl,_,_,rfl,rfl,.inl ⟨by decide,by decide⟩,_,_,rfl,rfl,_,rfl,_,_,rfl,rfl,.inl ⟨by decide,by decide⟩,rfl,fun t2 I2 u2 h2=>⟨rfl,fun L I3 u3 h3=>?_⟩⟩⟩
    have z1:(2:Int)*(x1:Int)=((2*x1:Nat):Int):=by omega
    have z2:(2:Int)*(y1:Int)+1=((2*y1+1:Nat):Int):=by omega
    have z3:(2:Int)*(x1:Int)+1=((2*x1+1:Nat):Int):=by omega
    have z4:(2:Int)*(y1:Int)=((2*y1:Nat):Int):=by omega
    replace h1:I1 t1=some (.tup [.int ((2:Int)*(x1:Int)),.int ((2:Int)*(y1:Int)+1)]):=h1
    replace h2:I2 t2=some (.tup [.int ((2:Int)*(x1:Int)+1),.int ((2:Int)*(y1:Int))]):=h2
    rw[z1,z2]at h1
    rw[z3,z4]at h2
    have U:=Same.trans u1 (Same.trans u2 u3)
    refine⟨L,rfl,⟨_,SqL.of h3⟩,Jv (K:=K) (a:=L) (xs:=[V.ref t1,.ref t2]) (fun j σ G=>∃(sd':List Nat)(ag:Bool)(v5 v6 v7:Option V),σ=[some (.ref p),some (.ref D),some (.bl ag),some (.int (x1:Int)),some (.int (y1:Int)),v5,v6,v7]/\Same H G/\G D=some (.lst (nl sd'))/\Sdz es n sd'/\
      ((ag=true/\sd'.sum<sd.sum)\/(ag=false/\sd'=sd/\(∀j,j<i->Agr sd (es.getD j (0,0)))/\(1<=j->sd.getD (2*x1) 0=sd.getD (2*y1+1) 0)/\(2<=j->sd.getD (2*x1+1) 0=sd.getD (2*y1) 0)))/\G L=some (.lst [.ref t1,.ref t2])/\G t1=some (.tup [.int ((2*x1:Nat):Int),.int ((2*y1+1:Nat):Int)])/\G t2=some (.tup [.int ((2*x1+1:Nat):Int),.int ((2*y1:Nat):Int)]))
     ⟨sd',ag,_,_,_,rfl,Same.trans SG U,U _ _ hG,hZ,hI.imp id (fun⟨a,b,c⟩=>⟨a,b,c,fun h=>absurd h (by decide),fun h=>absurd h (by decide)⟩),h3,u3 _ _ (u2 _ _ h1),u3 _ _ h2⟩ (fun j σ G _⟨_,_,_,_,_,_,_,_,_,_,z,_⟩=>SqL.of z) (fun j x σ G hx xq1=>?_) (fun σ G xq1=>?_)⟩
    ·obtain⟨sd',ag,v5,v6,v7,e,SG,hG,hZ,hJ,gL,g1,g2⟩:=xq1
     subst e
     have hlz:=hZ.len
     obtain⟨t,a,b,rfl,gt,ha,hb,hab,hf,hnx⟩:∃(t:Addr)(a b:Nat),x= .ref t/\G t=some (.tup [.int (a:Int),.int (b:Int)])/\a<2*n/\b<2*n/\a≠b/\(∀f:Nat->Bool,(∀e∈es,f (2*e.1)=f (2*e.2+1)/\f (2*e.1+1)=f (2*e.2))->f a=f b)/\
       (sd.getD a 0=sd.getD b 0->(1<=j->sd.getD (2*x1) 0=sd.getD (2*y1+1) 0)->(2<=j->sd.getD (2*x1+1) 0=sd.getD (2*y1) 0)->(1<=j+1->sd.getD (2*x1) 0=sd.getD (2*y1+1) 0)/\(2<=j+1->sd.getD (2*x1+1) 0=sd.getD (2*y1) 0)):=by
      match j,hx with
      |0,hx=>
       cases hx
       refine⟨t1,_,_,rfl,g1,by omega,by omega,by omega,fun f hF=>?_,fun h _ _=>⟨fun _=>h,fun h=>absurd h (by decide)⟩⟩
       have:=(hF _ hmem).1
       rw[hx1,hy1]at this
       exact this
      |1,hx=>
       cases hx
       refine⟨t2,_,_,rfl,g2,by omega,by omega,by omega,fun f hF=>?_,fun h h1 _=>⟨fun _=>h1 (Nat.le_refl _),fun _=>h⟩⟩
       have:=(hF _ hmem).2
       rw[hx1,hy1]at this
       exact this
     refine⟨t,_,rfl,SqT.of gt,rfl,_,_,rfl,_,_,rfl,rfl,?_⟩
     have gu:=Jf (l:=sd') (i:=a) (by omega)
     have gv:=Jf (l:=sd') (i:=b) (by omega)
     have eqs:sd'=sd->sd'.getD a 0=sd'.getD b 0->sd.getD a 0=sd.getD b 0:=fun e h=>by rw[<-e];exact h
     generalize sd'.getD a 0=u at gu eqs
     generalize sd'.getD b 0=v at gv eqs
     have ea:atI (nl sd') ((a:Nat):Int)=some (.int (u:Int)):=Z3 (nl_get gu)
     have eb:atI (nl sd') ((b:Nat):Int)=some (.int (v:Int)):=Z3 (nl_get gv)
     refine⟨_,rfl,_,rfl,D,_,_,_,rfl,rfl,SqL.of hG,ea,_,rfl,_,rfl,D,_,_,_,rfl,rfl,SqL.of hG,eb,_,_,rfl,?_⟩
     obtain⟨w,hw,hw1,hw2,hw3⟩:∃w:Nat,(if(v:Int)<(u:Int)then(v:Int)else(u:Int))=(w:Int)/\(w=u\/w=v)/\w<=u/\w<=v:=by
      split
      ·exact⟨v,rfl,.inr rfl,by omega,Nat.le_refl _⟩
      ·exact⟨u,rfl,.inl rfl,Nat.le_refl _,by omega⟩
     dsimp only[JY]
     rw[hw]
     have key:(u≠w\/v≠w)->∃(sd2:List Nat)(ag:Bool)(w5 w6 w7:Option V),([some (.ref p),some (.ref D),some (.bl true),some (.int (x1:Int)),some (.int (y1:Int)),some (.int (a:Int)),some (.int (b:Int)),some (.int (w:Int))]:St)=[some (.ref p),some (.ref D),some (.bl ag),some (.int (x1:Int)),some (.int (y1:Int)),w5,w6,w7]/\Same H (upd (upd G D (.lst ((nl sd').set a (.int (w:Int))))) D (.lst (((nl sd').set a (.int (w:Int))).set b (.int (w:Int)))))/\upd (upd G D (.lst ((nl sd').set a (.int (w:Int))))) D (.lst (((nl sd').set a (.int (w:Int))).set b (.int (w:Int)))) D=some (.lst (nl sd2))/\Sdz es n sd2/\
       ((ag=true/\sd2.sum<sd.sum)\/(ag=false/\sd2=sd/\(∀j,j<i->Agr sd (es.getD j (0,0)))/\(1<=j+1->sd.getD (2*x1) 0=sd.getD (2*y1+1) 0)/\(2<=j+1->sd.getD (2*x1+1) 0=sd.getD (2*y1) 0)))/\upd (upd G D (.lst ((nl sd').set a (.int (w:Int))))) D (.lst (((nl sd').set a (.int (w:Int))).set b (.int (w:Int)))) L=some (.lst [.ref t1,.ref t2])/\upd (upd G D (.lst ((nl sd').set a (.int (w:Int))))) D (.lst (((nl sd').set a (.int (w:Int))).set b (.int (w:Int)))) t1=some (.tup [.int ((2*x1:Nat):Int),.int ((2*y1+1:Nat):Int)])/\upd (upd G D (.lst ((nl sd').set a (.int (w:Int))))) D (.lst (((nl sd').set a (.int (w:Int))).set b (.int (w:Int)))) t2=some (.tup [.int ((2*x1+1:Nat):Int),.int ((2*y1:Nat):Int)]):=by
      intro hne
      obtain⟨Z,hs⟩:=hZ.set gu gv hab hf hw1 hw2 hw3 hne
      have nD:∀{y:Addr}{o:HO},G y=some o->(∀xs:List Nat,o≠.lst (nl xs))->y≠D:=fun{y o} hy ho z=>by
       rw[z,hG]at hy
       exact ho sd' (Option.some.inj hy).symm
      have nL:L≠D:=nD gL fun xs z=>Zk2 (HO.lst.inj z).symm
      have nt1:t1≠D:=nD g1 fun xs z=>by cases z
      have nt2:t2≠D:=nD g2 fun xs z=>by cases z
      refine⟨_,true,_,_,_,rfl,(SG.wr hDH).wr hDH,(by rw[Zd,ZfF,ZfF]),Z,.inl ⟨rfl,?_⟩,by rw[Zf nL,Zf nL];exact gL,by rw[Zf nt1,Zf nt1];exact g1,by rw[Zf nt2,Zf nt2];exact g2⟩
      rcases hJ with⟨_,z⟩|⟨_,z,_⟩
      ·omega
      ·rw[z]at hs
       rw[z]
       exact hs
     by_cases hu:u=w
     ·have d1:(!decide (V.int (u:Int)=V.int (w:Int)))=false:=by rw[hu,decide_eq_true rfl];rfl
      refine⟨_,rfl,_,rfl,D,_,_,_,rfl,rfl,SqL.of hG,ea,_,rfl,rfl,_,rfl,?_⟩
      rw[d1]
      refine ZD ⟨_,rfl,_,rfl,D,_,_,_,rfl,rfl,SqL.of hG,eb,_,rfl,rfl,_,rfl,?_⟩
      by_cases hv:v=w
      ·have d2:(!decide (V.int (v:Int)=V.int (w:Int)))=false:=by rw[hv,decide_eq_true rfl];rfl
       rw[d2]
       refine ZD ⟨sd',ag,_,_,_,rfl,SG,hG,hZ,?_,gL,g1,g2⟩
       rcases hJ with z|⟨c1,c2,c3,c4,c5⟩
       ·exact .inl z
       ·exact .inr ⟨c1,c2,c3,hnx (eqs c2 (hu.trans hv.symm)) c4 c5⟩
      ·have d2:(!decide (V.int (v:Int)=V.int (w:Int)))=true:=by rw[decide_eq_false (fun z=>hv (by have:=V.int.inj z;omega))];rfl
       rw[d2]
       exact YA ⟨_,rfl,_,rfl,_,rfl,D,_,a,rfl,rfl,hG,by rw[nl_len];omega,_,rfl,_,rfl,_,rfl,D,_,b,rfl,rfl,Zd,by rw[List.length_set,nl_len];omega,key (.inr hv)⟩
     ·have d1:(!decide (V.int (u:Int)=V.int (w:Int)))=true:=by rw[decide_eq_false (fun z=>hu (by have:=V.int.inj z;omega))];rfl
      refine⟨_,rfl,_,rfl,D,_,_,_,rfl,rfl,SqL.of hG,ea,_,rfl,rfl,_,rfl,?_⟩
      rw[d1]
      exact YA (YA ⟨_,rfl,_,rfl,_,rfl,D,_,a,rfl,rfl,hG,by rw[nl_len];omega,_,rfl,_,rfl,_,rfl,D,_,b,rfl,rfl,Zd,by rw[List.length_set,nl_len];omega,key (.inl hu)⟩)
    ·obtain⟨sd',ag,v5,v6,v7,e,SG,hG,hZ,hJ,_⟩:=xq1
     subst e
     refine⟨sd',ag,⟨⟨_,_,_,_,_,rfl⟩,SG,hG,hZ⟩,?_⟩
     rcases hJ with z|⟨c1,c2,c3,c4,c5⟩
     ·exact .inl z
     ·refine .inr ⟨c1,c2,fun j hj=>?_⟩
      by_cases hji:j=i
      ·subst hji
       unfold Agr
       rw[hx1,hy1]
       exact⟨c4 (show 1<=2 by decide),c5 (show 2<=2 by decide)⟩
      ·exact c3 j (by omega)
   ·obtain⟨sd',ag,hT,hI⟩:=xq1
    rw[hlen]at hI
    rcases hI with⟨e1,e2⟩|⟨e1,e2,e3⟩
    ·subst e1
     exact⟨_,(by show 2*sd'.sum+1<2*sd.sum+1;omega),sd',true,rfl,hT,fun z=>by cases z⟩
    ·subst e1 e2
     refine⟨_,(by show 2*sd'.sum+0<2*sd'.sum+1;omega),sd',false,rfl,hT,fun _ e he=>?_⟩
     obtain⟨j,hj⟩:=List.getElem?_of_mem he
     have:=e3 j (List.getElem?_eq_some_iff.mp hj).1
     rw[List.getD_eq_getElem?_getD,hj]at this
     exact this
abbrev sAl:Stmt:=top 77
abbrev nAl:List Str:=["_law_net_here","_law_crowds_here","_law_one","_law_other"]
inductive spAl(vs:List V)(H:Hp)(Q:VK)(_z3:XK):Prop
 |mk (p n q ts es:_) (_:vs=[.ref p]) (_:NetZ H p n q ts es) (_:0<n) (_:∀H' b,Same H H'->(b=true↔∃m,∀x,x<n->dg es es.length x=m)->Q (.bl b) H')
theorem scAl:Zr nAl ["_law_net_here"] (Zh sAl):=⟨rfl,rfl,rfl,by decide+kernel,rfl,by decide+kernel,by decide+kernel⟩
theorem Zky{f}{fd}(F:Fun K "_law_alike" "_law_alike" sAl f fd)(T:Bi mg):FnOk P w K mg base CX0 1 f fd ["_law_net_here"] spAl:=by
 refine F.ok scAl (fun vs H Q E h=>?_) (fun cdv A outer s H vs Q E hr h=>?_)
 ·obtain⟨p,n,q,ts,c,rfl,_⟩:=h
  rfl
 ·obtain⟨p,n,qa,ts,c,rfl,N,hn,q⟩:=h
  refine⟨_,Zb (Zj (i:=1) scAl.nd rfl (Or.inl rfl) (Zp ZaY (Yd (Zc Ze Za)) (Zl Zo (pv 0) Ze (fun _ _=>rfl))))
   (Zb (ZL PassesOwn.never rfl (Yu (Zl Zo (pv 0) Ze (fun _ _=>rfl))) (YB rfl (Zy (Zq (i:=2) scAl.nd rfl (Or.inl rfl)) (Zy (Zq (i:=3) scAl.nd rfl (Or.inl rfl)) Ya)))
    (Zb (Yq (Zp Z4 (Zl Z6 (pv 1) (pv 2) (fun _ _=>rfl)) Ze) (Jd (pv 1) (pv 2) ZU))
    (Zg (Yq (Zp Z4 (Zl Z6 (pv 1) (pv 3) (fun _ _=>rfl)) Ze) (Jd (pv 1) (pv 3) ZU)))))
   (Zg (Zs (YH ZI (Zn (ZeO rfl) rfl T.max Zjj (Zc (pv 1) Za)) (Zn (ZeM rfl) rfl T.min Zji (Zc (pv 1) Za)) (Zv _))))),?_⟩
  have h60:=N.n60
  refine⟨(by decide),fun b hb=>⟨_,rfl,p,_,_,_,rfl,rfl,SqT.of (by rw[Zf (Zk N.e1 hb)];exact N.e1),rfl,b,n,_,rfl,rfl,Zd,(by omega),(by omega),(by rw[sizeLine_eq];show 1*((n:Int)).toNat<=_;omega),fun D hD=>?_⟩⟩
  have s1:Same H (upd (upd H b (.lst [.int 0])) D (.lst (List.replicate ((n:Int)).toNat ([.int 0]:List V)).flatten)):=Same.trans (Zi hb) (Zi hD)
  have hD0:=(Zi hb).none hD
  rw[Int.toNat_natCast,JN c]
  rw[Int.toNat_natCast,JN c]at s1
  refine⟨_,rfl,p,_,_,_,rfl,rfl,SqT.of (s1 _ _ N.e1),rfl,qa,rfl,⟨_,SqT.of (s1 _ _ N.e2)⟩,Yt (K:=K) (a:=qa) (xs:=ts) (fun i σ H'=>(∃v2 v3,σ=[some (.ref p),some (.ref D),v2,v3])/\Same H H'/\H' D=some (.lst (lv (dg c i) n))) ⟨⟨_,_,rfl⟩,s1,Zd⟩ (fun i σ H' _ z=>SqT.of (z.2.1 _ _ N.e2)) (fun i x σ H' k xq1=>?_) (fun σ H' xq1=>?_)⟩
  ·obtain⟨⟨v2,v3,e⟩,sH,hc⟩:=xq1
   subst e
   obtain⟨a,rfl,ha⟩:=N.tie i x k
   obtain⟨a1,b1,ab⟩:=N.ok _ (getD_mem (show i<c.length by rw[<-N.len];exact(List.getElem?_eq_some_iff.mp k).1))
   have tw:=Zgg c i ab
   generalize hA:(c.getD i (0,0)).1=d at*
   generalize hB:(c.getD i (0,0)).2=B1 at*
   refine⟨a,_,rfl,SqT.of (sH _ _ ha),rfl,_,_,rfl,_,_,rfl,rfl,_,rfl,_,rfl,D,_,_,_,rfl,rfl,SqL.of hc,Z3 (JH _ a1),_,_,rfl,rfl,_,rfl,_,rfl,D,_,d,rfl,rfl,hc,by rw[Jt];exact a1,?_⟩
   rw[(show(lv (dg c i) n).set d (.int ((dg c i d:Int)+1))=lv (put (dg c i) d (dg c i d+1)) n from Zck _ _ _ _)]
   refine⟨_,rfl,_,rfl,D,_,_,_,rfl,rfl,SqL.of Zd,Z3 (JH _ b1),_,_,rfl,rfl,_,rfl,_,rfl,D,_,B1,rfl,rfl,Zd,by rw[Jt];exact b1,⟨_,_,rfl⟩,(sH.wr hD0).wr hD0,?_⟩
   rw[(show(lv (put (dg c i) d (dg c i d+1)) n).set B1 (.int (((put (dg c i) d (dg c i d+1) B1:Nat):Int)+1))=lv (put (put (dg c i) d (dg c i d+1)) B1 (put (dg c i) d (dg c i d+1) B1+1)) n from Zck _ _ _ _),Zd,ZcK n tw]
  ·obtain⟨⟨v2,v3,z1⟩,z2,z3⟩:=xq1
   subst z1
   rw[N.len,ZfH]at z3
   have hdl:0<(dl c n).length:=by unfold dl;rw[List.length_map,List.length_range];exact hn
   refine⟨_,rfl,D,_,rfl,.inl (SqL.of z3),hdl,fun M h1 h2=>⟨_,rfl,D,_,rfl,.inl (SqL.of z3),hdl,fun M2 h3 h4=>⟨rfl,q H' _ z2 ?_⟩⟩⟩
   have mem:∀x,x<n->(dg c c.length x:Int)∈dl c n:=fun x k=>by unfold dl;exact List.mem_map.mpr ⟨x,List.mem_range.mpr k,rfl⟩
   constructor
   ·intro z
    have e:=V.int.inj (of_decide_eq_true z)
    refine⟨M.toNat,fun x k=>?_⟩
    have c1:=h2 _ (mem x k)
    have c2:=h4 _ (mem x k)
    omega
   ·grind
end
theorem Ze3{R:List _}(h:R.Nodup):(R.map fun x:Nat=>(x:Int)).Nodup:=by
 grind
theorem Zmb:bootBuiltins "set"=some (.type "set"):=by decide+kernel
def Tdd(es:List (Nat×Nat))(i:Nat)(x y:Nat):Prop:=∃j,j<i/\(((es.getD j (0,0)).1=x/\(es.getD j (0,0)).2=y)\/((es.getD j (0,0)).2=x/\(es.getD j (0,0)).1=y))
theorem Zgs{R}{i m:Nat}(hl:R.length=2*m+1)(hi:i<R.length):atI (nl R) (i-1)=some (.int ((R.getD (if i=0 then 2*m else i-1) 0:Nat))):=by
 have g:∀k,k<R.length->(nl R)[k]?=some _:=fun k a=>nl_get (Jf a)
 by_cases z:i=0
 ·subst z
  unfold atI ixN
  rw[if_neg (by omega),if_pos (by rw[nl_len];omega),if_pos rfl,show((((0:Nat))-1)+((nl R).length:Int)).toNat=2*m by rw[nl_len];omega]
  exact g _ (by omega)
 ·rw[if_neg z,show i-1=((i-1:Nat):Int) by omega]
  exact Z3 (g _ (by omega))
section
variable{P:Program}{w:World}{K:PySem.W.Frag}{mg:Str->Option Value}{base:Heap}
abbrev sRi:Stmt:=top 73
abbrev nRi:List Str:=["_law_net_here","_law_row","_law_point","_law_tied","_law_one","_law_other","_law_k"]
theorem scRi:Zr nRi ["_law_net_here","_law_row"] (Zh sRi):=⟨rfl,rfl,rfl,by decide+kernel,rfl,by decide+kernel,by decide+kernel⟩
inductive spRi(vs:List V)(H:Hp)(Q:VK)(_z3:XK):Prop
 |mk (p n q ts es v R m:_) (_:vs=[.ref p,v]) (_:NetZ H p n q ts es) (_:RingAt H es n v R m) (_:∀H',Same H H'->Q (.bl true) H')
theorem Zka{f}{fd}(F:Fun K "_law_is_ring" "_law_is_ring" sRi f fd)(T:Bi mg)(hse:mg "set"=none):FnOk P w K mg base CX0 2 f fd ["_law_net_here","_law_row"] spRi:=by
 refine F.ok (k:=1) scRi (fun vs H Q E h=>?_) (fun cdv A outer s H vs Q E hr h=>?_)
 ·obtain⟨p,n,q,ts,es,v,R,m,rfl,_⟩:=h
  rfl
 ·obtain⟨p,n,qa,ts,es,v,R,m,rfl,N,RA,q⟩:=h
  have hu:=ZdZ hr
  obtain⟨r,rfl,hR⟩:=RA.at_
  have hlen:=RA.len
  have hpos:=RA.pos
  have h60:=N.n60
  have h200:=N.l200
  have htl:=N.len
  have hmn:R.length<=n:=by
   have:=sub_len (a:=R) (b:=List.range n) RA.nd fun x hx=>List.mem_range.mpr (RA.lt x hx)
   rwa [List.length_range]at this
  refine⟨_,Zb (Z0 (PW.pt (pw_or (Yc (ZS (Zn ZO rfl T.isi YE (Zc (pv 1) (Zc (Yr (v:= .ty "tuple") rfl T.tuple Yl rfl) Za))))) (pw_or (Zm Zax (Zn Zx rfl T.len YD (Zc (pv 1) Za)) Ze (Zv _)) (pw_or (Zm ZI (Zp ZG (Zn Zx rfl T.len YD (Zc (pv 1) Za)) Ze) Ze (Zv _)) (pw_or1 (Zm ZaZ (Zn ZeP rfl T.len YD (Zc (Z1 (ZeL hr) rfl hse Zmb (Zc (pv 1) Za)) Za)) (Zn Zx rfl T.len YD (Zc (pv 1) Za)) (Zv _))))))) Z8 Zt)
   (Zb (ZL PassesOwn.never rfl (Yu (pv 1)) (Zq (i:=2) scRi.nd rfl (Or.inl rfl)) (Zg (Z0 (PW.pt (pw_or (Yc (ZS (Zn ZO rfl T.isi YE (Zc (pv 2) (Zc (Yr (v:= .ty "int") rfl T.int Zld rfl) Za))))) (pw_or1 (ZS (Zn ZO rfl T.isi YE (Zc (pv 2) (Zc (Yr (v:= .ty "bool") rfl T.bool Zgq rfl) Za))))))) Z8 Zt)))
   (Zb (Zj (i:=3) scRi.nd rfl (Or.inl rfl) ZaV)
   (Zb (ZL PassesOwn.never rfl (Yu (Zl Zo (pv 0) Ze (fun _ _=>rfl))) (YB rfl (Zy (Zq (i:=4) scRi.nd rfl (Or.inl rfl)) (Zy (Zq (i:=5) scRi.nd rfl (Or.inl rfl)) Ya)))
    (Zb (Jz hu (pv 3) (Z5 (Zc (pv 4) (Zc (pv 5) Za))) ZE rfl)
    (Zg (Jz hu (pv 3) (Z5 (Zc (pv 5) (Zc (pv 4) Za))) ZE rfl))))
   (Zb (ZL PassesOwn.never rfl (Yi rfl T.range (Zc (Zn Zx rfl T.len YD (Zc (pv 1) Za)) Za)) (Zq (i:=6) scRi.nd rfl (Or.inl rfl))
    (Zg (Z0 (JE (J0 hu (Z5 (Zc (Zl Zo (pv 1) (Zp Jq (pv 6) Ze) (fun _ _=>rfl)) (Zc (Zl Zo (pv 1) (pv 6) (fun _ _=>rfl)) Za))) (pv 3))) Z8 Zt)))
   (Zg (Zs ZE)))))),_,rfl,_,_,_,_,rfl,.tup hR,kit K "tuple" "tuple" true (by decide+kernel),_,rfl,ZD ?_⟩
  refine⟨_,rfl,r,_,rfl,.inr (SqT.of hR),_,_,rfl,rfl,_,rfl,?_⟩
  rw[nl_len,decide_eq_false (by omega)]
  refine ZD ⟨_,rfl,r,_,rfl,.inr (SqT.of hR),_,_,rfl,rfl,(by show(0:Int)<2;decide),rfl,_,rfl,?_⟩
  rw[decide_eq_false (fun z=>by
   have:=V.int.inj z
   rw[nl_len]at this
   omega)]
  refine ZD ⟨_,rfl,r,_,rfl,by rw[<-Zbb];exact SqT.of hR,by rw[List.length_map];omega,fun z S G sG hz=>?_⟩
  rw[Zb1 _ (Ze3 RA.nd),List.length_map]at hz
  have hRG:=sG _ _ hR
  refine⟨z,S,_,rfl,hz,by omega,_,rfl,r,_,rfl,.inr (SqT.of hRG),rfl,_,rfl,?_⟩
  rw[nl_len,decide_eq_true rfl]
  refine ZD ⟨_,rfl,r,rfl,⟨_,SqT.of hRG⟩,Yt (K:=K) (a:=r) (xs:=nl R) (fun i σ G'=>Same H G'/\∃v2,σ=[some (.ref p),some (.ref r),v2,none,none,none,none]) ⟨sG,_,rfl⟩ (fun i σ G' _ z=>SqT.of (z.1 _ _ hR)) (fun i x σ G' hx xq1=>?_) (fun σ G' xq1=>?_)⟩
  ·obtain⟨sG',v2,e⟩:=xq1
   subst e
   obtain⟨y,hy,rfl⟩:∃y,R[i]?=some y/\x= .int (y:Int):=by
    unfold nl at hx
    rw[List.getElem?_map]at hx
    cases e:R[i]? with
    |none=>rw[e]at hx;cases hx
    |some y=>rw[e]at hx;exact⟨y,rfl,(Option.some.inj hx).symm⟩
   exact⟨_,rfl,_,_,_,_,rfl,.int _,kit K "int" "int" true (by decide+kernel),_,rfl,ZD ⟨_,rfl,_,_,_,_,rfl,.int _,kit K "int" "bool" false (by decide+kernel),_,rfl,ZD ⟨sG',_,rfl⟩⟩⟩
  ·obtain⟨sG',v2,e⟩:=xq1
   subst e
   intro d hd
   have hdH:=sG'.none hd
   refine⟨_,rfl,p,_,_,_,rfl,rfl,SqT.of ((sG'.wr hdH) _ _ N.e1),rfl,qa,rfl,⟨_,SqT.of ((sG'.wr hdH) _ _ N.e2)⟩,Yt (K:=K) (a:=qa) (xs:=ts) (fun i σ G=>∃(kvs:List (List Key×V))(v4 v5:Option V),σ=[some (.ref p),some (.ref r),v2,some (.ref d),v4,v5,none]/\Same H G/\G d=some (.dT kvs)/\kvs.length<=2*i/\Keys kvs (Tdd es i))
    ⟨[],_,_,rfl,sG'.wr hdH,Zd,Nat.le_refl _,fun p t=>⟨(fun z=>by cases z),fun⟨j,h,_⟩=>absurd h (Nat.not_lt_zero _)⟩⟩ (fun i σ G _⟨_,_,_,_,z,_⟩=>SqT.of (z _ _ N.e2)) (fun i x σ G hx xq1=>?_) (fun σ G xq1=>?_)⟩
   ·obtain⟨kvs,v4,v5,e,SG,gd,hkl,hK⟩:=xq1
    subst e
    have hie:i<es.length:=by have:=(List.getElem?_eq_some_iff.mp hx).1;omega
    obtain⟨b,rfl,hb⟩:=N.tie i x hx
    refine⟨b,_,rfl,SqT.of (SG _ _ hb),rfl,_,_,rfl,_,_,rfl,rfl,_,rfl,_,rfl,_,rfl,rfl,fun t1 G1 u1 h1=>⟨d,_,rfl,DPut.t (k:=ky (es.getD i (0,0)).1 (es.getD i (0,0)).2) (u1 _ _ gd) h1 (by rw[sizeLine_eq];omega),?_⟩⟩
    have l1:=ZN kvs (ky (es.getD i (0,0)).1 (es.getD i (0,0)).2) (V.bl true)
    refine⟨_,rfl,_,rfl,_,rfl,rfl,fun t2 G2 u2 h2=>⟨d,_,rfl,DPut.t (k:=ky (es.getD i (0,0)).2 (es.getD i (0,0)).1) (u2 _ _ Zd) h2 (by rw[sizeLine_eq];omega),?_⟩⟩
    have l2:=ZN (putK kvs (ky (es.getD i (0,0)).1 (es.getD i (0,0)).2) (V.bl true)) (ky (es.getD i (0,0)).2 (es.getD i (0,0)).1) (V.bl true)
    refine⟨_,_,_,rfl,(Same.trans ((Same.trans SG u1).wr hdH) u2).wr hdH,Zd,by omega,((hK.put _ _ _).put _ _ _).iff fun x y=>?_⟩
    constructor
    ·rintro((⟨j,hj,h⟩|⟨rfl,rfl⟩)|⟨rfl,rfl⟩)
     ·exact⟨j,by omega,h⟩
     ·exact⟨i,by omega,.inl ⟨rfl,rfl⟩⟩
     ·exact⟨i,by omega,.inr ⟨rfl,rfl⟩⟩
    ·rintro⟨j,hj,h⟩
     by_cases e:j=i
     ·subst e
      rcases h with⟨rfl,rfl⟩|⟨rfl,rfl⟩
      ·exact .inl (.inr ⟨rfl,rfl⟩)
      ·exact .inr ⟨rfl,rfl⟩
     ·exact .inl (.inl ⟨j,by omega,h⟩)
   ·obtain⟨kvs,v4,v5,e,SG,gd,hkl,hK⟩:=xq1
    subst e
    rw[htl]at hK
    refine⟨_,rfl,r,_,rfl,.inr (SqT.of (SG _ _ hR)),_,rfl,by rw[nl_len];omega,by rw[nl_len];omega,?_⟩
    rw[nl_len]
    refine Yz (lo:=0) (n:=((R.length:Nat):Int).toNat) (fun i σ G'=>Same H G'/\G' d=some (.dT kvs)/\∃v6,σ=[some (.ref p),some (.ref r),v2,some (.ref d),v4,v5,v6]) ⟨SG,gd,_,rfl⟩ (fun i σ G' hi xq1=>?_) (fun σ G' xq1=>?_)
    ·obtain⟨sG',gd',v6,e⟩:=xq1
     subst e
     rw[Int.toNat_natCast]at hi
     rw[Int.zero_add]
     have hR':=sG' _ _ hR
     have hadj:=RA.tied i (by omega)
     rw[Sd.mem_adjF]at hadj
     refine⟨_,rfl,_,rfl,_,_,rfl,rfl,r,_,_,_,rfl,rfl,SqT.of hR',Zgs hlen hi,_,rfl,_,rfl,r,_,_,_,rfl,rfl,SqT.of hR',Z3 (nl_get (Jf hi)),rfl,fun t G2 u2 ht=>⟨_,rfl,d,_,rfl,DGet.t (k:=ky (R.getD (if i=0 then 2*m else i-1) 0) (R.getD i 0)) (u2 _ _ gd') ht,_,rfl,?_⟩⟩
     have hk:(ZP kvs (ky (R.getD (if i=0 then 2*m else i-1) 0) (R.getD i 0))).isSome=true:=by
      rw[hK]
      obtain⟨k,h1,h2⟩:=hadj
      refine⟨k,h1,?_⟩
      rcases h2 with⟨z1,z2⟩|⟨z1,z2⟩
      ·exact .inl ⟨z1.symm,z2.symm⟩
      ·exact .inr ⟨z1.symm,z2.symm⟩
     rw[hk]
     exact ZD ⟨Same.trans sG' u2,u2 _ _ gd',_,rfl⟩
    ·obtain⟨sG',_,_,e⟩:=xq1
     subst e
     exact q G' sG'
end
structure Gk(mg:Str->Option Value)(cR cA cT n1 n2 n3 n4 n5 n6 n7 n8 te:Addr):Prop where
 gR:mg "NotTwoSided"=some (.ref cR)
 gA:mg "NotAlike"=some (.ref cA)
 gT:mg "TooFew"=some (.ref cT)
 g1:mg "NoMeeting"=some (.ref n1)
 g2:mg "NoName"=some (.ref n2)
 g3:mg "NoStep"=some (.ref n3)
 g4:mg "NoText"=some (.ref n4)
 g5:mg "NoTie"=some (.ref n5)
 g6:mg "NotClean"=some (.ref n6)
 g7:mg "NotPlain"=some (.ref n7)
 g8:mg "TooGreat"=some (.ref n8)
 gE:mg "TintError"=some (.ref te)
 hv:mg "ValueError"=none
structure Kk(K:PySem.W.Frag)(cR cA cT n1 n2 n3 n4 n5 n6 n7 n8 te C:Addr)(k:Nat):Prop where
 k0:PySem.W.kitOne K (.ref C) (.ref cR)=some (decide (k=0))
 k1:PySem.W.kitOne K (.ref C) (.ref cA)=some (decide (k=1))
 k2:PySem.W.kitOne K (.ref C) (.ref cT)=some (decide (k=2))
 o1:PySem.W.kitOne K (.ref C) (.ref n1)=some false
 o2:PySem.W.kitOne K (.ref C) (.ref n2)=some false
 o3:PySem.W.kitOne K (.ref C) (.ref n3)=some false
 o4:PySem.W.kitOne K (.ref C) (.ref n4)=some false
 o5:PySem.W.kitOne K (.ref C) (.ref n5)=some false
 o6:PySem.W.kitOne K (.ref C) (.ref n6)=some false
 o7:PySem.W.kitOne K (.ref C) (.ref n7)=some false
 o8:PySem.W.kitOne K (.ref C) (.ref n8)=some false
 kv:PySem.W.kitOne K (.ref C) (.type "ValueError")=some true
 e0:PySem.W.kitCls K (.ref C) (.ref cR)=some (decide (k=0))
 e2:PySem.W.kitCls K (.ref C) (.ref cT)=some (decide (k=2))
 ke:PySem.W.kitCls K (.ref C) (.ref te)=some true
 gt:RX.ZdH K C
section
variable{P:Program}{w:World}{K:PySem.W.Frag}{mg:Str->Option Value}{base:Heap}{cR cA cT n1 n2 n3 n4 n5 n6 n7 n8 te:Addr}
abbrev sKi:Stmt:=top 74
abbrev nKi:List Str:=["_law_e","_law_kinds_here","_law_others"]
inductive Zj6(K:PySem.W.Frag)(cR cA cT n1 n2 n3 n4 n5 n6 n7 n8 te:Addr)(vs:List V)(H:Hp)(Q:VK)(_z3:XK):Prop
 |mk (e C k od:_) (_:vs=[.ref e]) (_:Kk K cR cA cT n1 n2 n3 n4 n5 n6 n7 n8 te C k) (_:H e=some (RX.XO C od e)) (_:(∀dx,od=some dx->∃u,H dx=some u)) (_:∀H' l,Same H H'->H' l=some (.lst [.bl (decide (k=0)),.bl (decide (k=1)),.bl (decide (k=2)),.bl false,.bl true])->Q (.ref l) H')
theorem scKi:Zr nKi ["_law_e"] (Zh sKi):=⟨rfl,rfl,rfl,by decide+kernel,rfl,by decide+kernel,by decide+kernel⟩
theorem Zkh{f}{fd}(F:Fun K "_law_kinds" "_law_kinds" sKi f fd)(T:Bi mg)(G:Gk mg cR cA cT n1 n2 n3 n4 n5 n6 n7 n8 te):RX.FnM P w K mg base 1 f fd ["_law_e"] (Zj6 K cR cA cT n1 n2 n3 n4 n5 n6 n7 n8 te):=by
 refine RX.Zhk F scKi (fun vs H Q E h=>?_) (fun cdv A outer s H vs Q hr h=>?_)
 ·obtain⟨e,C,k,od,rfl,_⟩:=h
  rfl
 ·obtain⟨e,C,k,od,rfl,W,he,hd,q⟩:=h
  refine⟨_,Zb (Zj (i:=1) scKi.nd rfl (Or.inl rfl) (Ye (Zc (Zn RX.ZC rfl T.isi YE (Zc (pv 0) (Zc (Ym (v:= .ref cR) rfl G.gR rfl) Za))) (Zc (Zn RX.ZC rfl T.isi YE (Zc (pv 0) (Zc (Ym (v:= .ref cA) rfl G.gA rfl) Za)))
    (Zc (Zn RX.ZC rfl T.isi YE (Zc (pv 0) (Zc (Ym (v:= .ref cT) rfl G.gT rfl) Za))) Za)))))
   (Zb (Zj (i:=2) scKi.nd rfl (Or.inl rfl) (Ye (Zc (Zn RX.ZC rfl T.isi YE (Zc (pv 0) (Zc (Ym (v:= .ref n1) rfl G.g1 rfl) Za))) (Zc (Zn RX.ZC rfl T.isi YE (Zc (pv 0) (Zc (Ym (v:= .ref n2) rfl G.g2 rfl) Za)))
    (Zc (Zn RX.ZC rfl T.isi YE (Zc (pv 0) (Zc (Ym (v:= .ref n3) rfl G.g3 rfl) Za))) (Zc (Zn RX.ZC rfl T.isi YE (Zc (pv 0) (Zc (Ym (v:= .ref n4) rfl G.g4 rfl) Za))) Za))))))
   (Zb (Zj (i:=2) scKi.nd rfl (Or.inl rfl) (Zp JX (pv 2) (Ye (Zc (Zn RX.ZC rfl T.isi YE (Zc (pv 0) (Zc (Ym (v:= .ref n5) rfl G.g5 rfl) Za))) (Zc (Zn RX.ZC rfl T.isi YE (Zc (pv 0) (Zc (Ym (v:= .ref n6) rfl G.g6 rfl) Za)))
    (Zc (Zn RX.ZC rfl T.isi YE (Zc (pv 0) (Zc (Ym (v:= .ref n7) rfl G.g7 rfl) Za))) Za))))))
   (Zg (Zs (Zp JX (pv 1) (Ye (Zc (ZjK (YH ZbE ZE (pv 2) rfl) (ZaT (Zn RX.ZC rfl T.isi YE (Zc (pv 0) (Zc (Ym (v:= .ref n8) rfl G.g8 rfl) Za)))))
    (Zc (Zn RX.ZC rfl T.isi YE (Zc (pv 0) (Zc (Yr (v:= .ty "ValueError") rfl G.hv rfl rfl) Za))) Za)))))))),?_⟩
  have hdd:∀{G:Hp},Same H G->∀dx,od=some dx->∃u,G dx=some u:=fun{G} sG dx hdx=>let⟨u,hu⟩:=hd dx hdx;⟨u,sG _ _ hu⟩
  have s0:=Same.refl H
  refine⟨_,rfl,e,C,od,_,_,_,rfl,he,hdd s0,W.gt,rfl,W.k0,_,rfl,e,C,od,_,_,_,rfl,he,hdd s0,W.gt,rfl,W.k1,_,rfl,e,C,od,_,_,_,rfl,he,hdd s0,W.gt,rfl,W.k2,rfl,fun l0 H0 t0 hl0=>⟨_,rfl,e,C,od,_,_,false,rfl,t0 _ _ he,hdd t0,W.gt,rfl,W.o1,_,rfl,e,C,od,_,_,false,rfl,t0 _ _ he,hdd t0,W.gt,rfl,W.o2,_,rfl,e,C,od,_,_,false,rfl,t0 _ _ he,hdd t0,W.gt,rfl,W.o3,_,rfl,e,C,od,_,_,false,rfl,t0 _ _ he,hdd t0,W.gt,rfl,W.o4,rfl,fun l1 H1 t1 hl1=>?_⟩⟩
  have s1:=Same.trans t0 t1
  refine⟨_,rfl,_,rfl,e,C,od,_,_,false,rfl,s1 _ _ he,hdd s1,W.gt,rfl,W.o5,_,rfl,e,C,od,_,_,false,rfl,s1 _ _ he,hdd s1,W.gt,rfl,W.o6,_,rfl,e,C,od,_,_,false,rfl,s1 _ _ he,hdd s1,W.gt,rfl,W.o7,rfl,fun l2 H2 t2 hl2=>⟨l1,l2,_,_,rfl,rfl,t2 _ _ hl1,hl2,(by decide),fun l3 H3 t3 hl3=>?_⟩⟩
  have s3:=Same.trans s1 (Same.trans t2 t3)
  refine⟨_,rfl,_,rfl,l3,_,rfl,.inl (SqL.of hl3),rfl,rfl,false,(by rfl),ZD ⟨_,rfl,e,C,od,_,_,false,rfl,s3 _ _ he,hdd s3,W.gt,rfl,W.o8,_,rfl,e,C,od,_,_,true,rfl,s3 _ _ he,hdd s3,W.gt,rfl,W.kv,rfl,fun l4 H4 t4 hl4=>⟨l0,l4,_,_,rfl,rfl,t4 _ _ (t3 _ _ (t2 _ _ (t1 _ _ hl0))),hl4,(by show 3+2<=100000;decide),fun l5 H5 t5 hl5=>q H5 l5 (Same.trans s3 (Same.trans t4 t5)) hl5⟩⟩⟩
end
def ZdJ(H:Hp)(l:Addr)(ks:List Bool)(v:V):Prop:=∃lk,H l=some (.lst [.ref lk,v])/\H lk=some (.lst (ks.map V.bl))
section
variable{P:Program}{w:World}{K:PySem.W.Frag}{mg:Str->Option Value}{base:Heap}{cR cA cT n1 n2 n3 n4 n5 n6 n7 n8 te:Addr}
def NtP(ru:Bool)(H:Hp)(es:List (Nat×Nat))(n:Nat)(Q:VK):Prop:=
 (¬Two es->∀H' l v R m,Same H H'->ZdJ H' l [true,false,false,false,true] v->RingAt H' es n v R m->Q (.ref l) H')/\
 (Two es->ru=true->∀m:Nat,IsMax (dl es n) m->(∃x,x<n/\dg es es.length x≠m)->∀H' l,Same H H'->ZdJ H' l [false,true,false,false,true] .non->Q (.ref l) H')/\
 (Two es->(ru=true->∀m:Nat,IsMax (dl es n) m->∀x,x<n->dg es es.length x=m)->∀H' l,Same H H'->ZdJ H' l [] .non->Q (.ref l) H')
def ZhE(cR cA:Addr):Sp:=fun vs H Q E=>(spRd vs H Q E\/ZhF cR vs H Q E)\/ZhG cA vs H Q E
def ZhL(cR:Addr):Sp:=fun vs H Q E=>spAm vs H Q E\/Zfk cR vs H Q E
def ZhJ(cT:Addr):Sp:=fun vs H Q E=>spEv vs H Q E\/ZhK cT vs H Q E
abbrev sAs:Stmt:=top 75
abbrev nAs:List Str:=["_law_way","_law_net_here","_law_tints","_law_many","_law_kinds_here","_law_field","_law_e"]
abbrev pAs:List Str:=["_law_way","_law_net_here","_law_tints","_law_many"]
theorem scAs:Zr nAs pAs (Zh sAs):=⟨rfl,rfl,rfl,by decide+kernel,rfl,by decide+kernel,by decide+kernel⟩
theorem Zfh:¬(V.str "all"=V.str "rounds"):=by decide+kernel
theorem Zij:¬(V.str "even"=V.str "rounds"):=by decide+kernel
theorem Zik:¬(V.str "even"=V.str "all"):=by decide+kernel
inductive spAs(vs:List V)(H:Hp)(Q:VK)(_z3:XK):Prop
 |mk (wy p n q ts es tv' mv:_) (_:vs=[.str wy,.ref p,tv',mv]) (_:NetZ H p n q ts es) (_:es.length<64) (_:((wy="rounds"/\NtP true H es n Q/\∃m:Nat,IsMax (dl es n) m)\/(wy="all"/\NtP false H es n Q)\/(wy="even"/\∃(r:Addr)(tl:List (Option Nat))(m:Nat),tv'= .ref r/\mv= .int m/\H r=some (.tup (tv tl))/\tl.length<=1000/\(((∃t,some t∈tl/\m<(t:Int)+1)/\∀H' l d,Same H H'->ZdJ H' l [false,false,true,false,true] (.int d)->Grt tl d->Q (.ref l) H')\/(Tg es m tl/\0<m/\m<=1000/\∀H' l,Same H H'->ZdJ H' l [] .non->Q (.ref l) H')))))
theorem Zkw{f fR fA fE fK}{fd fdR fdA fdE fdK}(F:Fun K "_law_asked" "_law_asked" sAs f fd)(G:Gk mg cR cA cT n1 n2 n3 n4 n5 n6 n7 n8 te)(hbR:PySem.W.mroIn K cR (.type "BaseException")=some true)(hbT:PySem.W.mroIn K cT (.type "BaseException")=some true)(hbe:PySem.W.mroIn K te (.type "BaseException")=some true)
  (W0:Kk K cR cA cT n1 n2 n3 n4 n5 n6 n7 n8 te cR 0)(W1:Kk K cR cA cT n1 n2 n3 n4 n5 n6 n7 n8 te cA 1)(W2:Kk K cR cA cT n1 n2 n3 n4 n5 n6 n7 n8 te cT 2)(nR:PySem.W.findIn K (.ref cR) "ring"=some none)(nT:PySem.W.findIn K (.ref cT) "need"=some none)
  (FR:FnOk P w K mg base (RX.CXe P w) 10 fR fdR ["net"] (ZhE cR cA))(gR:mg "rounds"=some (.ref fR))(kR:PySem.W.keepIn K (.ref fR)=true)(bR:L2.Binds K fdR ["net"] [])
  (FA:FnOk P w K mg base (RX.CXe P w) 10 fA fdA ["net"] (ZhL cR))(gA:mg "all_meet"=some (.ref fA))(kA:PySem.W.keepIn K (.ref fA)=true)(bA:L2.Binds K fdA ["net"] [])
  (FE:FnOk P w K mg base (RX.CXe P w) 10 fE fdE ["net","tints","many"] (ZhJ cT))(gE:mg "evened"=some (.ref fE))(kE:PySem.W.keepIn K (.ref fE)=true)(bE:L2.Binds K fdE ["net","tints","many"] [])
  (FK:RX.FnM P w K mg base 1 fK fdK ["_law_e"] (Zj6 K cR cA cT n1 n2 n3 n4 n5 n6 n7 n8 te))(gK:mg "_law_kinds"=some (.ref fK))(kK:PySem.W.keepIn K (.ref fK)=true)(bK:L2.Binds K fdK ["_law_e"] []):
  FnOk P w K mg base CX0 11 f fd pAs spAs:=by
 refine F.ok (k:=10) scAs (fun vs H Q E h=>?_) (fun cdv A outer s H vs Q E hr h=>?_)
 ·obtain⟨wy,p,n,q,ts,es,tv',mv,rfl,_⟩:=h
  rfl
 ·obtain⟨wy,p,n,qa,ts,es,tv',mv,rfl,N,h64,h⟩:=h
  obtain⟨tt,htt,rt⟩:∃t,PSs (Yk CX0 P w K mg base nAs "_law_asked" (Zh sAs) f cdv A outer s H E).nox ((ZK sAs).drop 3) t/\∀(G:Hp)(u0 u1 u2 u3 u6:Option V)(lk:Addr)(ks:List Bool)(v:V),G lk=some (.lst (ks.map V.bl))->(∀G' l,Same G G'->ZdJ G' l ks v->Q (.ref l) G')->
    t {nx:=fun _ H'=>Q .non H',rt:=Q} [u0,u1,u2,u3,some (.ref lk),some v,u6] G:=⟨_,Zg (Zs (Ye (Zc (pv 4) (Zc (pv 5) Za)))),fun G u0 u1 u2 u3 u6 lk ks v hlk hq=>⟨_,rfl,_,rfl,rfl,fun l G1 s1 h1=>hq G1 l s1 ⟨lk,h1,s1 _ _ hlk⟩⟩⟩
  refine⟨_,Zb (Zj (i:=4) scAs.nd rfl (Or.inl rfl) (Ye Za))
   (Zb (Zj (i:=5) scAs.nd rfl (Or.inl rfl) ZM)
   (Zb (RX.Ziy rfl rfl (fun pn E Ex ht=>Zg (Z0 (Zm ZI (pv 0) ZT (Zv _))
     (Zg (ZH (RX.ZaW FR hr rfl gR kR bR .nil ht (Zc (pv 1) Za))))
     (Zg (Z0 (Zm ZI (pv 0) ZT (Zv _))
      (Zg (ZH (RX.ZaW FA hr rfl gA kA bA .nil ht (Zc (pv 1) Za))))
      (Zg (ZH (RX.ZaW FE hr rfl gE kE bE .nil ht (Zc (pv 1) (Zc (pv 2) (Zc (pv 3) Za))))))))))
    (RX.Zfw (i:=6) rfl G.gR hbR scAs.nd rfl rfl (fun e=>Zb (Zj (i:=4) scAs.nd rfl (Or.inl rfl) (RX.ZaX FK (RX.RoomM.mono (RX.RoomM.of hr _) (by decide)) rfl gK kK bK .nil (Zc (pv 6) Za))) (Zg (Zj (i:=5) scAs.nd rfl (Or.inl rfl) (RX.ZcB (K:=K) rfl (pv 6) rfl))))
    (RX.Zfw (i:=6) rfl G.gT hbT scAs.nd rfl rfl (fun e=>Zb (Zj (i:=4) scAs.nd rfl (Or.inl rfl) (RX.ZaX FK (RX.RoomM.mono (RX.RoomM.of hr _) (by decide)) rfl gK kK bK .nil (Zc (pv 6) Za))) (Zg (Zj (i:=5) scAs.nd rfl (Or.inl rfl) (RX.ZcB (K:=K) rfl (pv 6) rfl))))
    (RX.Zfw (i:=6) rfl G.gE hbe scAs.nd rfl rfl (fun e=>Zg (Zj (i:=4) scAs.nd rfl (Or.inl rfl) (RX.ZaX FK (RX.RoomM.mono (RX.RoomM.of hr _) (by decide)) rfl gK kK bK .nil (Zc (pv 6) Za)))) RX.Zi4))))
   htt)),?_⟩
  refine⟨rfl,fun l0 H0 s0 hl0=>?_⟩
  have N0:=N.same s0
  have fin:∀(H1:Hp)(u6:Option V),Same H0 H1->(∀H' l,Same H H'->ZdJ H' l [] .non->Q (.ref l) H')->tt {nx:=fun _ H'=>Q .non H',rt:=Q} [some (.str wy),some (.ref p),some tv',some mv,some (.ref l0),some .non,u6] H1:=fun H1 u6 s1 hq=>
   rt H1 _ _ _ _ _ l0 [] .non (s1 _ _ hl0) fun G' l' s' h'=>hq G' l' (Same.trans s0 (Same.trans s1 s')) h'
  rcases h with⟨rfl,⟨q1,q2,q3⟩,m,hm⟩|⟨rfl,q1,_,q3⟩|⟨rfl,r,tl,m,rfl,rfl,hr',htl,h⟩
  ·refine⟨_,rfl,rfl,_,rfl,ZF (fun _=>⟨_,rfl,?_⟩) (fun z=>absurd (decide_eq_true rfl) z)⟩
   by_cases hT:Two es
   ·by_cases hreg:∀x,x<n->dg es es.length x=m
    ·exact .inl (.inl ⟨p,n,qa,ts,es,m,rfl,N0,hT,h64,hm,hreg,fun H1 z rs tl s1 _ _ _ _=>(fin H1 _ s1 (q3 hT fun _ m' hm' x hx=>by rw[hreg x hx];have:=hm'.uniq hm;omega))⟩)
    ·refine .inr ⟨p,n,qa,ts,es,m,rfl,N0,hT,hm,?_,fun H1 s1=>?_⟩
     ·apply Classical.byContradiction
      exact fun hno=>hreg fun x hx=>Classical.byContradiction fun y=>hno ⟨x,hx,y⟩
     ·refine⟨cA,false,rfl,W1.e0,ZD ⟨cA,false,rfl,W1.e2,ZD ⟨cA,true,rfl,W1.ke,?_⟩⟩⟩
      rw[if_pos rfl]
      intro e he
      have s1e:Same H1 (upd H1 e (RX.XO cA none e)):=Zz he
      refine⟨_,rfl,e,cA,1,none,rfl,W1,Zd,(fun d z=>by cases z),fun H2 l s2 hl=>(rt H2 _ _ _ _ _ l [false,true,false,false,true] .non hl fun G' l' s' h'=>q2 hT rfl m hm ?_ G' l' (Same.trans s0 (Same.trans s1 (Same.trans s1e (Same.trans s2 s')))) h')⟩
      apply Classical.byContradiction
      exact fun hno=>hreg fun x hx=>Classical.byContradiction fun y=>hno ⟨x,hx,y⟩
   ·refine .inl (.inr ⟨p,n,qa,ts,es,rfl,N0,hT,fun H1 dx v rg m s1 hdx RA=>⟨cR,true,rfl,W0.e0,?_⟩⟩)
    rw[if_pos rfl]
    intro e he
    have hed:e≠dx:=fun z=>by rw[z,Zd]at he;cases he
    have s1d:Same H1 (upd H1 dx (.xd [("ring",v)])):=Zz hdx
    have s1e:Same (upd H1 dx (.xd [("ring",v)])) (upd (upd H1 dx (.xd [("ring",v)])) e (RX.XO cR (some dx) e)):=Zz he
    have gd:(upd (upd H1 dx (.xd [("ring",v)])) e (RX.XO cR (some dx) e)) dx=some (.xd [("ring",v)]):=by rw[Zf (Ne.symm hed),Zd]
    refine⟨_,rfl,e,cR,0,some dx,rfl,W0,Zd,(fun d z=>by cases z;exact⟨_,gd⟩),fun H2 l s2 hl=>?_⟩
    obtain⟨rr,hv,_⟩:=RA.at_
    refine⟨_,rfl,e,cR,dx,_,_,rfl,s2 _ _ Zd,s2 _ _ gd,W0.gt,nR,rfl,(fun n z=>by rw[hv]at z;cases z),?_⟩
    have sx:=Same.trans s1d (Same.trans s1e s2)
    exact rt H2 _ _ _ _ _ l [true,false,false,false,true] v hl fun G' l' s' h'=>q1 hT G' l' v rg m (Same.trans s0 (Same.trans s1 (Same.trans sx s'))) h' (RA.same (Same.trans sx s'))
  ·refine⟨_,rfl,rfl,_,rfl,ZF (fun z=>absurd (of_decide_eq_true z) Zfh) (fun _=>⟨_,rfl,rfl,_,rfl,ZF (fun _=>⟨_,rfl,?_⟩) (fun z=>absurd (decide_eq_true rfl) z)⟩)⟩
   by_cases hT:Two es
   ·exact .inl ⟨p,n,qa,ts,es,rfl,N0,hT,h64,fun H1 z S s1 _ _=>(fin H1 _ s1 (q3 hT fun z=>by cases z))⟩
   ·refine .inr ⟨p,n,qa,ts,es,rfl,N0,hT,fun H1 dx v rg m s1 hdx RA=>⟨cR,true,rfl,W0.e0,?_⟩⟩
    rw[if_pos rfl]
    intro e he
    have gd:(upd (upd H1 dx (.xd [("ring",v)])) e (RX.XO cR (some dx) e)) dx=some (.xd [("ring",v)]):=by rw[Zf (Ne.symm (show e≠dx from fun z=>by rw[z,Zd]at he;cases he)),Zd]
    refine⟨_,rfl,e,cR,0,some dx,rfl,W0,Zd,(fun d z=>by cases z;exact⟨_,gd⟩),fun H2 l s2 hl=>?_⟩
    obtain⟨rr,hv,_⟩:=RA.at_
    refine⟨_,rfl,e,cR,dx,_,_,rfl,s2 _ _ Zd,s2 _ _ gd,W0.gt,nR,rfl,(fun n z=>by rw[hv]at z;cases z),?_⟩
    have sx:=Same.trans (show Same H1 (upd H1 dx (.xd [("ring",v)]))from Zz hdx) (Same.trans (show Same (upd H1 dx (.xd [("ring",v)])) (upd (upd H1 dx (.xd [("ring",v)])) e (RX.XO cR (some dx) e))from Zz he) s2)
    exact rt H2 _ _ _ _ _ l [true,false,false,false,true] v hl fun G' l' s' h'=>q1 hT G' l' v rg m (Same.trans s0 (Same.trans s1 (Same.trans sx s'))) h' (RA.same (Same.trans sx s'))
  ·refine⟨_,rfl,rfl,_,rfl,ZF (fun z=>absurd (of_decide_eq_true z) Zij) (fun _=>⟨_,rfl,rfl,_,rfl,ZF (fun z=>absurd (of_decide_eq_true z) Zik) (fun _=>⟨_,rfl,_,rfl,_,rfl,?_⟩)⟩)⟩
   rcases h with⟨hex,q1⟩|⟨hTg,hm0,hm1,q1⟩
   ·refine .inr ⟨p,r,tl,(m:Int),rfl,s0 _ _ hr',htl,hex,fun H1 dx d s1 hdx hG=>⟨cT,false,rfl,W2.e0,ZD ⟨cT,true,rfl,W2.e2,?_⟩⟩⟩
    rw[if_pos rfl]
    intro e he
    have gd:(upd (upd H1 dx (.xd [("need",.int d)])) e (RX.XO cT (some dx) e)) dx=some (.xd [("need",.int d)]):=by rw[Zf (Ne.symm (show e≠dx from fun z=>by rw[z,Zd]at he;cases he)),Zd]
    exact⟨_,rfl,e,cT,2,some dx,rfl,W2,Zd,(fun d z=>by cases z;exact⟨_,gd⟩),fun H2 l s2 hl=>⟨_,rfl,e,cT,dx,_,_,rfl,s2 _ _ Zd,s2 _ _ gd,W2.gt,nT,rfl,(fun n z=>by cases z),rt H2 _ _ _ _ _ l [false,false,true,false,true] (.int d) hl fun G' l' s' h'=>q1 G' l' d (Same.trans s0 (Same.trans s1 (Same.trans (show Same H1 (upd H1 dx (.xd [("need",.int d)]))from Zz hdx) (Same.trans (show Same (upd H1 dx (.xd [("need",.int d)])) (upd (upd H1 dx (.xd [("need",.int d)])) e (RX.XO cT (some dx) e))from Zz he) (Same.trans s2 s'))))) h' hG⟩⟩
   ·exact .inl ⟨p,r,n,qa,ts,es,tl,m,rfl,N0,s0 _ _ hr',hTg,h64,hm0,hm1,fun H1 l sl t2 s1 _ _ _=>(fin H1 _ s1 q1)⟩
end
end My
namespace L2
open PySem PySem.Spec PyProof.Rows
section
variable{prog:Program}{w:World}{A:Around}{E:Value->Shared->Prop}{s:Shared}
theorem ZbQ{it t}{items}(hne:t≠it):∀(n i)(s)(Q),s.heap.IsListIter it t i->s.heap.IsList t items->i+n<=items.size->
  (∀h',h'.IsListIter it t (i+n)->Heap.SameBut it s.heap h'->Q ((items.toList.drop i).take n) {s with heap:=h'})->wpAny (model prog w) A (draw (.ref it) n) Q E s
 |0,i,s,Q,a,_,_,g=>wpAny_pure (by simpa using g _ a (Heap.SameBut.refl ..))
 |n+1,i,s,Q,a,h,_,g=>by
  have c:i<items.size:=by omega
  refine wpAny_bind (wpAny_pyNext_list_item a h (x:=items[i]) (by simp[c]) fun _ e b=>wpAny_bind (wpAny_holding (ZbQ hne n _ _ _ e (h.extBut b.extBut hne) (by omega) fun _ _ f=>wpAny_pure ?_)))
  have:=g _ (by grind) (b.trans f)
  rw[(show items.toList.drop i=items[i]::items.toList.drop (i+1) by simp[List.drop_eq_getElem_cons,c]),List.take_succ_cons]at this
  exact this
theorem Zak{t}{items}{Q}(hh:A.handled=none)(ht:s.heap.IsList t items)
  (hQ:∀h',Heap.ExtBut s.heap.objs.size s.heap h'->Q items.toList {s with heap:=h'}):wpAny (model prog w) A (unpackItems (.ref t) items.size none) Q E s:=by
 have c:t≠s.heap.objs.size:=by obtain⟨o,i,_⟩:=ht;exact Nat.ne_of_lt (Heap.lt_size i)
 refine wpAny_bind (wpAny_bind (wpAny_specialOf ht.typeIs PySem.F.slot_list_iter.lookup (wpAny_pure ?_)))
 refine wpAny_bind (wpAny_holding (wpAny_pyIter_list ht (wpAny_bind (wpAny_holding (ZbQ c _ 0 _ _ ⟨_,Heap.get?_push_size _ rfl,rfl,rfl⟩ (ht.push _) (by omega) fun _ a f=>?_)))))
 have d:List.take items.size (List.drop 0 items.toList)=items.toList:=by
  rw[List.drop_zero];exact List.take_of_length_le (by simp)
 rw[d,if_neg (by simp)]
 refine wpAny_bind (wpAny_holding (wpAny_pyNext_list_end hh a ((ht.push _).extBut f.extBut c) (by simp) fun _ g=>?_))
 simp[Option.isSome_none,Bool.false_eq_true,if_false]
 exact wpAny_pure (hQ _ fun b o h e=>g b o h (f.extBut b o h (Heap.get?_push_of_some _ e)))
theorem Zae{env}{elts:List _}{x1}{pos}{t}{items:Array _}{Q:Unit->Shared->Prop}(hh:A.handled=none)(ht:s.heap.IsList t items)
  (hn:(assignEach elts env).length=items.size)(hstar:(assignEach elts env).findIdx? (·.1)=none)
  (h:∀h',Heap.ExtBut s.heap.objs.size s.heap h'->wpAny (model prog w) A (assignInOrder ((assignEach elts env).map (·.2)) items.toList) Q E {s with heap:=h'}):
  wpAny (model prog w) A (assign (.Tuple elts x1 pos) env (.ref t)) Q E s:=by
 refine wpAny_bind (wpAny_standAt ?_)
 unfold unpack
 rw[hn,hstar]
 exact wpAny_bind (wpAny_holding (Zak hh ht h))
end
section
variable{X:Cx}
def ZlY(K:PySem.W.Frag)(n:Nat)(t:TGs):TG:=fun v σ H Q=>∃a xs,v= .ref a/\SqL K H a xs/\xs.length=n/\t xs σ H Q
theorem Zfx{es:List _}{k}{t}{n}{pos}(hc:X.calm=true)(h:PGs X es t)
  (hn:(assignEach es X.env).length=n:=by rfl)(hst:(assignEach es X.env).findIdx? (·.1)=none:=by rfl):PG X (.Tuple es k pos) (ZlY X.K n t):=by
 intro _ s σ H v u Q I r c
 obtain⟨a,l,i,f,g,c⟩:=c
 subst i
 cases r
 obtain⟨_,d,j,_⟩:=I.list f
 exact Zae (I.ok.hd hc) j.isList (by simp[hn,<-g,d.length]) hst fun _ m=>h _ _ σ H l _ Q (I.kept fun b o e=>m b o (Nat.ne_of_lt (Heap.lt_size e)) e) (by simpa using d) c
end
end L2
namespace My
open PySem L2
theorem Zam{K}{H}{a b}{ks:List _}(ha:H a=some (.lst (ks.map V.bl)))(hb:H b=some (.lst (ks.map V.bl))):Sam K H 1 (.ref a) (.ref b):=by
 refine .inr ⟨a,b,_,_,rfl,rfl,.inr ⟨SqL.of ha,SqL.of hb⟩,rfl,fun i u v c f=>?_⟩
 rw[c]at f
 cases f
 rw[List.getElem?_map]at c
 cases e:ks[i]? with
 |none=>grind
 |some x=>rw[e]at c;cases c;exact Sam.atom trivial
theorem ZfO{es}{n}(hn:0<n):∃m:Nat,IsMax (dl es n) m:=by
 have j:∀k:Nat,0<k->k<=n->∃m,(∃x,x<k/\dg es es.length x=m)/\∀x,x<k->dg es es.length x<=m:=by
  intro k
  induction k with
  |zero=>omega
  |_ k i=>
   intro _ _
   rcases Nat.eq_zero_or_pos k with z|z
   ·simp_all
   ·obtain⟨m,⟨x,f,e⟩,h⟩:=i z (by omega)
    by_cases c:dg es es.length k<=m
    ·exact⟨m,⟨x,by omega,e⟩,fun y d=>if b:y=k then by rw[b];exact c else h y (by omega)⟩
    ·exact⟨_,⟨k,by omega,rfl⟩,fun y d=>if b:y=k then by grind else Nat.le_trans (h y (by omega)) (by omega)⟩
 obtain⟨m,⟨x,f,e⟩,h⟩:=j n hn (Nat.le_refl _)
 refine⟨m,.inr ⟨?_,fun a g=>?_⟩⟩
 ·exact List.mem_map.mpr ⟨x,List.mem_range.mpr f,by rw[e]⟩
 ·obtain⟨y,d,rfl⟩:=List.mem_map.mp g
  have:=h y (List.mem_range.mp d)
  omega
theorem ZgL{es}{n m:Nat}(hn:0<n)(hm:IsMax (dl es n) (m:Int)):(∃m0,∀x,x<n->dg es es.length x=m0)↔∀x,x<n->dg es es.length x=m:=by
 refine⟨fun xq1=>?_,fun h=>⟨m,h⟩⟩
 obtain⟨m0,h⟩:=xq1
 have e:m0=m:=by
  rcases hm with⟨z,_⟩|⟨z,_⟩
  ·have:=congrArg List.length z
   unfold dl at this
   grind
  ·unfold dl at z
   grind
 rw[<-e]
 exact h
section
variable{P:Program}{w:World}{K:PySem.W.Frag}{mg:Str->Option Value}{base:Heap}
abbrev sRn:Stmt:=top 78
abbrev nRn:List Str:=["_law_net_here","_law_way","_law_kinds_here","_law_field"]
theorem scRn:Zr nRn ["_law_net_here"] (Zh sRn):=⟨rfl,rfl,rfl,by decide+kernel,rfl,by decide+kernel,by decide+kernel⟩
inductive spRn(vs:List V)(H:Hp)(Q:VK)(_z3:XK):Prop
 |mk (p n q ts es:_) (_:vs=[.ref p]) (_:NetZ H p n q ts es) (_:0<n) (_:es.length<64) (_:∀H',Same H H'->Q (.bl true) H')
def Told(H:Hp)(es:List (Nat×Nat))(n:Nat)(wy:Str)(ks:List Bool)(v:V):Prop:=
 (¬Two es/\ks=[true,false,false,false,true]/\∃R m,RingAt H es n v R m)\/(Two es/\(wy="rounds"/\¬∃m,∀x,x<n->dg es es.length x=m)/\ks=[false,true,false,false,true])\/(Two es/\¬(wy="rounds"/\¬∃m,∀x,x<n->dg es es.length x=m)/\ks=[])
theorem ZjZ{f}{fd}(F:Fun K "_law_refused_net" "_law_refused_net" sRn f fd)(FA:FnE P w K mg base "_law_asked" pAs 11 spAs)(FT:FnE P w K mg base "_law_two_sides" ["_law_net_here"] 1 spTz)(FL:FnE P w K mg base "_law_alike" ["_law_net_here"] 1 spAl)(FR:FnE P w K mg base "_law_is_ring" ["_law_net_here","_law_row"] 2 spRi):FnOk P w K mg base CX0 12 f fd ["_law_net_here"] spRn:=by
 refine F.ok (k:=11) scRn (fun vs H Q E h=>?_) (fun cdv A outer s H vs Q E hr h=>?_)
 ·obtain⟨p,n,q,ts,es,rfl,_⟩:=h
  rfl
 ·obtain⟨p,n,qa,ts,es,rfl,N,hn,h64,q⟩:=h
  have hr1:Room 1 _:=hr.mono (by omega)
  obtain⟨m,hm⟩:=ZfO (es:=es) hn
  obtain⟨tb,htb,rb⟩:∃t,PSs (Yk CX0 P w K mg base nRn "_law_refused_net" (Zh sRn) f cdv A outer s H E).nox ((ZkM (stOf 78 0)).drop 1) t/\∀(D:Ends)(G:Hp)(wy:Str)(lk:Addr)(ks:List Bool)(v:V),Same H G->G lk=some (.lst (ks.map V.bl))->Told G es n wy ks v->(∀G',Same G G'->D.nx [some (.ref p),some (.str wy),some (.ref lk),some v] G')->
    t D [some (.ref p),some (.str wy),some (.ref lk),some v] G:=by
   refine⟨_,Zg (Z0 (Yc (ZS (Zw FT hr1 (Zc (pv 0) Za))))
     (Zg (Z0 (PW.pt (pw_or (Zm (Zci hr) (pv 2) (Ye (Zc ZE (Zc ZE (Zc ZE (Zc ZE (Zc ZE Za)))))) rfl) (pw_or1 (Yc (ZS (Zw FR (show Room 2 _ from hr.mono (by omega)) (Zc (pv 0) (Zc (pv 3) Za)))))))) (Zg (Zs ZE)) Zt))
     (Zg (Z0 (PW.pt (pw_and (Zm ZI (pv 1) ZT (Zv _)) (pw_and1 (Yc (ZS (Zw FL hr1 (Zc (pv 0) Za)))))))
      (Zg (Z0 (Zm (Zci hr) (pv 2) (Ye (Zc ZE (Zc ZE (Zc ZE (Zc ZE (Zc ZE Za)))))) rfl) (Zg (Zs ZE)) Zt))
      (Zg (Z0 (Zm (Zci hr) (pv 2) (Ye Za) rfl) (Zg (Zs ZE)) Zt))))),fun D G wy lk ks v sG hlk hF hD=>?_⟩
   have NG:=N.same sG
   refine⟨_,rfl,p,n,qa,ts,es,rfl,NG,fun G1 b s1 hb=>⟨_,rfl,?_⟩⟩
   have hlk1:=s1 _ _ hlk
   rcases hF with⟨hT,rfl,R,mm,RA⟩|⟨hT,hy,rfl⟩|⟨hT,hy,rfl⟩
   ·have eb:b=false:=by cases b with|false=>rfl|true=>exact absurd (hb.mp rfl) hT
    subst eb
    refine YA ⟨_,rfl,rfl,fun x1 G2 s2 hx1=>⟨lk,x1,1,rfl,rfl,by decide,Zam (s2 _ _ hlk1) hx1,_,rfl,ZD ?_⟩⟩
    have s12:=Same.trans s1 s2
    exact⟨_,rfl,_,rfl,p,n,qa,ts,es,v,R,mm,rfl,NG.same s12,RA.same s12,fun G3 s3=>⟨_,rfl,ZD (hD G3 (Same.trans s12 s3))⟩⟩
   ·have eb:b=true:=hb.mpr hT
    subst eb
    obtain⟨rfl,hreg⟩:=hy
    refine ZD ⟨_,rfl,rfl,_,rfl,ZF (fun _=>⟨_,rfl,p,n,qa,ts,es,rfl,NG.same s1,hn,fun G2 c s2 hc=>⟨_,rfl,?_⟩⟩) (fun z=>absurd (decide_eq_true rfl) z)⟩
    have ec:c=false:=by cases c with|false=>rfl|true=>exact absurd (hc.mp rfl) hreg
    subst ec
    refine YA ⟨_,rfl,rfl,fun x1 G3 s3 hx1=>⟨lk,x1,1,rfl,rfl,by decide,Zam (s3 _ _ (s2 _ _ hlk1)) hx1,_,rfl,ZD (hD G3 (Same.trans s1 (Same.trans s2 s3)))⟩⟩
   ·have eb:b=true:=hb.mpr hT
    subst eb
    refine ZD ⟨_,rfl,rfl,_,rfl,ZF (fun z=>?_) (fun z=>?_)⟩
    ·refine⟨_,rfl,p,n,qa,ts,es,rfl,NG.same s1,hn,fun G2 c s2 hc=>⟨_,rfl,?_⟩⟩
     have ec:c=true:=hc.mpr (Classical.byContradiction fun y=>hy ⟨(show wy="rounds" from V.str.inj (of_decide_eq_true z)),y⟩)
     subst ec
     exact ZD ⟨_,rfl,rfl,fun x1 G3 s3 hx1=>⟨lk,x1,1,rfl,rfl,by decide,Zam (ks:=[]) (s3 _ _ (s2 _ _ hlk1)) hx1,_,rfl,ZD (hD G3 (Same.trans s1 (Same.trans s2 s3)))⟩⟩
    ·exact ZD ⟨_,rfl,rfl,fun x1 G3 s3 hx1=>⟨lk,x1,1,rfl,rfl,by decide,Zam (ks:=[]) (s3 _ _ hlk1) hx1,_,rfl,ZD (hD G3 (Same.trans s1 s3))⟩⟩
  refine⟨_,Zb (ZL PassesOwn.never rfl (JS (Ye (Zc ZT (Zc ZT Za)))) (Zq (i:=1) scRn.nd rfl (Or.inl rfl))
    (Zb (Yq (Zw FA hr (Zc (pv 1) (Zc (pv 0) (Zc (Z5 Za) (Zc Ze Za))))) (Zfx rfl (Zy (Zq (i:=2) scRn.nd rfl (Or.inl rfl)) (Zy (Zq (i:=3) scRn.nd rfl (Or.inl rfl)) Ya)))) htb))
   (Zg (Zs ZE)),rfl,fun L H0 s0 hL=>⟨L,rfl,⟨_,SqL.of hL⟩,Jv (K:=K) (a:=L) (xs:=[V.str "rounds",.str "all"]) (fun i σ G=>Same H0 G/\∃v1 v2 v3,σ=[some (.ref p),v1,v2,v3]) ⟨Same.refl _,_,_,_,rfl⟩ (fun i σ G _ z=>SqL.of (z.1 _ _ hL)) (fun i x σ G hx xq1=>?_) (fun σ G⟨sG,_⟩=>q G (Same.trans s0 sG))⟩⟩
  obtain⟨sG,v1,v2,v3,e⟩:=xq1
  subst e
  obtain⟨wy,rfl,hwy⟩:∃wy:Str,x= .str wy/\(wy="rounds"\/wy="all"):=by
   match i,hx with
   |0,hx=>cases hx;exact⟨_,rfl,.inl rfl⟩
   |1,hx=>cases hx;exact⟨_,rfl,.inr rfl⟩
  have sHG:=Same.trans s0 sG
  refine⟨_,rfl,_,rfl,rfl,fun t G1 s1 _=>⟨wy,p,n,qa,ts,es,.ref t,.int 0,rfl,(N.same sHG).same s1,h64,?_⟩⟩
  rcases hwy with rfl|rfl
  ·refine .inl ⟨rfl,⟨fun hT H' l v R mm s' xq1 RA=>?_,fun hT _ m' hm' hx H' l s' xq1=>?_,fun hT hreg H' l s' xq1=>?_⟩,m,hm⟩
   ·obtain⟨lk,hl,hlk⟩:=xq1
    exact⟨l,_,rfl,SqL.of hl,rfl,_,_,rfl,_,_,rfl,rfl,rb _ H' _ lk _ _ (Same.trans sHG (Same.trans s1 s')) hlk (.inl ⟨hT,rfl,R,mm,RA⟩) fun G' s2=>⟨Same.trans sG (Same.trans s1 (Same.trans s' s2)),_,_,_,rfl⟩⟩
   ·obtain⟨lk,hl,hlk⟩:=xq1
    exact⟨l,_,rfl,SqL.of hl,rfl,_,_,rfl,_,_,rfl,rfl,rb _ H' _ lk _ _ (Same.trans sHG (Same.trans s1 s')) hlk (.inr (.inl ⟨hT,⟨rfl,fun z=>(let⟨x,h1,h2⟩:=hx;h2 ((ZgL hn hm').mp z x h1))⟩,rfl⟩)) fun G' s2=>⟨Same.trans sG (Same.trans s1 (Same.trans s' s2)),_,_,_,rfl⟩⟩
   ·obtain⟨lk,hl,hlk⟩:=xq1
    exact⟨l,_,rfl,SqL.of hl,rfl,_,_,rfl,_,_,rfl,rfl,rb _ H' _ lk _ _ (Same.trans sHG (Same.trans s1 s')) hlk (.inr (.inr ⟨hT,fun z=>z.2 ⟨m,hreg rfl m hm⟩,rfl⟩)) fun G' s2=>⟨Same.trans sG (Same.trans s1 (Same.trans s' s2)),_,_,_,rfl⟩⟩
  ·refine .inr (.inl ⟨rfl,fun hT H' l v R mm s' xq1 RA=>?_,(fun _ z=>by cases z),fun hT _ H' l s' xq1=>?_⟩)
   ·obtain⟨lk,hl,hlk⟩:=xq1
    exact⟨l,_,rfl,SqL.of hl,rfl,_,_,rfl,_,_,rfl,rfl,rb _ H' _ lk _ _ (Same.trans sHG (Same.trans s1 s')) hlk (.inl ⟨hT,rfl,R,mm,RA⟩) fun G' s2=>⟨Same.trans sG (Same.trans s1 (Same.trans s' s2)),_,_,_,rfl⟩⟩
   ·obtain⟨lk,hl,hlk⟩:=xq1
    exact⟨l,_,rfl,SqL.of hl,rfl,_,_,rfl,_,_,rfl,rfl,rb _ H' _ lk _ _ (Same.trans sHG (Same.trans s1 s')) hlk (.inr (.inr ⟨hT,fun z=>absurd (congrArg V.str z.1) Zfh,rfl⟩)) fun G' s2=>⟨Same.trans sG (Same.trans s1 (Same.trans s' s2)),_,_,_,rfl⟩⟩
end
def Gre(tl:List (Option Nat))(g:Nat):Prop:=(∀t,some t∈tl->t<=g)/\(0<g->some g∈tl)
section
variable{P:Program}{w:World}{K:PySem.W.Frag}{mg:Str->Option Value}{base:Heap}{Pt:Addr}
abbrev JM:Stmt:=top 79
abbrev Ze4:List Str:=["_law_script","_law_points","_law_ties_here","_law_net_here","_law_menu","_law_tints","_law_greatest","_law_many","_law_kinds_here","_law_field"]
def lwE:Stmt->Expr
 | .Assign _ (.Call _ [e] _ _) _=>e
 |_=> .Constant .none 0 ⟨0,0,0,0⟩
abbrev lwS:Scope:=compScope (lwE (stOf 79 8))
theorem ZlM:(["_law_tint"]:List Str).Nodup:=by decide+kernel
theorem scLaw:Zr Ze4 ["_law_script"] (Zh JM):=⟨rfl,rfl,rfl,by decide+kernel,rfl,by decide+kernel,by decide+kernel⟩
theorem ZkY{f}{cdv}{A}{outer}{s}{H}{E}:
  Blk (Yk CX0 P w K mg base Ze4 "law" (Zh JM) f cdv A outer s H E).nox lwS [] ["_law_tint"] [none]:=by
 refine⟨rfl,rfl,by decide+kernel,by decide+kernel,fun p c=>(by cases c),fun y d e=>?_,trivial⟩
 have _:y∈[((PySem.Str.ofString _),NameKind.local),(PySem.Str.ofString _,.local)]:=d
 grind
theorem Zk9{f}{cdv}{A:Around}{outer:List _}{s:Shared}{H:Hp}{E:XK}{Q:VK}(T:Bi mg)(hr:Room 12 (A.deeper (PyProof.Rows.envOfC "law" (Zh JM) s.heap.objs.size f cdv)))(FD:FnE P w K mg base "_law_draw" ["_law_script","_law_k"] 1 (JD K))(FA:FnE P w K mg base "_law_asked" pAs 11 spAs)(q:∀H',Q (.bl true) H'):
  ∃t,PSs (Yk CX0 P w K mg base Ze4 "law" (Zh JM) f cdv A outer s H E).nox ((ZK JM).drop 9) t/\∀(G:Hp)(a p r qa:Addr)(ns:List Int)(n g:Nat)(ts:List V)(es:List (Nat×Nat))(tl:List (Option Nat))(u1 u2 u4:Option V),SqL K G a (ns.map V.int)->Dr ns->NetZ G p n qa ts es->es.length<64->G r=some (.tup (tv tl))->tl.length=es.length->CleanTo es tl es.length->Gre tl g->g<=900->
   t {nx:=fun _ H'=>Q .non H',rt:=Q} [some (.ref a),u1,u2,some (.ref p),u4,some (.ref r),some (.int (g:Int)),none,none,none] G:=by
 have hr11:Room 11 _:=hr.mono (by omega)
 obtain⟨t10,h10,r10⟩:∃t,PSs (Yk CX0 P w K mg base Ze4 "law" (Zh JM) f cdv A outer s H E).nox ((ZK JM).drop 10) t/\∀(G:Hp)(p r qa:Addr)(n g:Nat)(ts:List V)(es:List (Nat×Nat))(tl:List (Option Nat))(u0 u1 u2 u4 u7 u8 u9:Option V),NetZ G p n qa ts es->es.length<64->G r=some (.tup (tv tl))->tl.length=es.length->CleanTo es tl es.length->Gre tl g->g<=900->
   t {nx:=fun _ H'=>Q .non H',rt:=Q} [u0,u1,u2,some (.ref p),u4,some (.ref r),some (.int (g:Int)),u7,u8,u9] G:=⟨_,Zg (Zs (YH (ZiC hr) (Zl Z6 (Zw FA hr11 (Zc ZT (Zc (pv 3) (Zc (pv 5) (Zc (Zp Z4 (pv 6) Ze) Za))))) Ze (fun _ _=>rfl)) (Ye Za) rfl)),fun G p r qa n g ts es tl u0 u1 u2 u4 u7 u8 u9 N c b h hC hg hg9=>⟨_,rfl,_,rfl,_,rfl,_,_,rfl,rfl,"even",p,n,qa,ts,es,.ref r,.int ((g:Int)+1),rfl,N,c,.inr (.inr ⟨rfl,r,tl,g+1,rfl,(by rw[Int.natCast_add];rfl),b,by omega,.inr ⟨⟨h,hC,fun t ht=>by have:=hg.1 t ht;omega⟩,by omega,by omega,fun H1 l s1⟨lk,hl,hlk⟩=>⟨l,_,_,_,rfl,rfl,SqL.of hl,rfl,rfl,fun x G2 s2 hx=>⟨lk,x,1,rfl,rfl,by decide,Zam (ks:=[]) (s2 _ _ hlk) hx,q G2⟩⟩⟩⟩)⟩⟩
 refine⟨_,Zb (Z0 (Zm Zf8 (pv 6) Ze (Zv _))
   (Zb (Zj (i:=7) scLaw.nd rfl (Or.inl rfl) (Zp Z4 Ze (Zp ZG (Zw FD (show Room 1 _ from hr.mono (by omega)) (Zc (pv 0) (Zc Ze Za))) (pv 6))))
   (Zb (Yq (Zw FA hr11 (Zc ZT (Zc (pv 3) (Zc (pv 5) (Zc (pv 7) Za))))) (Zfx rfl (Zy (Zq (i:=8) scLaw.nd rfl (Or.inl rfl)) (Zy (Zq (i:=9) scLaw.nd rfl (Or.inl rfl)) Ya))))
   (Zg (Z0 (PW.pt (pw_or (Zm (Zci hr) (pv 8) (Ye (Zc ZE (Zc ZE (Zc ZE (Zc ZE (Zc ZE Za)))))) rfl) (pw_or (ZS (Zn ZO rfl T.isi YE (Zc (pv 9) (Zc (Yr (v:= .ty "bool") rfl T.bool Zgq rfl) Za)))) (pw_or1 (Zm ZaZ (pv 9) (Zp Z4 (pv 6) Ze) (Zv _)))))) (Zg (Zs ZE)) Zt)))) Zt) h10,fun G a p r qa ns n g ts es tl u1 u2 u4 hS hD N c b h hC hg hg9=>?_⟩
 refine⟨_,rfl,_,_,rfl,rfl,_,rfl,ZF (fun z=>?_) (fun z=>?_)⟩
 ·have g0:=of_decide_eq_true z
  refine⟨_,rfl,a,ns,400,rfl,hS,hD,by decide,by decide,_,rfl,_,_,rfl,rfl,g0,_,_,rfl,rfl,?_⟩
  have b1:=Yh (n:=draw ns 400) (p:=(g:Int)) g0
  have b2:=Yn (n:=draw ns 400) (p:=(g:Int)) g0
  obtain⟨m,hm⟩:∃m:Nat,1+draw ns 400%(g:Int)=(m:Int):=⟨(1+draw ns 400%(g:Int)).toNat,by omega⟩
  dsimp only[JY]
  rw[hm]
  have hgm:=hg.2 (by omega)
  refine⟨_,rfl,_,rfl,_,rfl,"even",p,n,qa,ts,es,.ref r,.int (m:Int),rfl,N,c,.inr (.inr ⟨rfl,r,tl,m,rfl,rfl,b,by omega,.inl ⟨⟨g,hgm,by omega⟩,fun H1 l d s1 xq1 hGd=>?_⟩⟩)⟩
  obtain⟨lk,hl,hlk⟩:=xq1
  have hd:d=(g:Int)+1:=by
   obtain⟨⟨t,ht,e⟩,h2⟩:=hGd
   have:=h2 g hgm
   have:=hg.1 t ht
   omega
  subst hd
  refine⟨l,_,rfl,SqL.of hl,rfl,_,_,rfl,_,_,rfl,rfl,_,rfl,rfl,fun x G2 s2 hx=>⟨lk,x,1,rfl,rfl,by decide,Zam (s2 _ _ hlk) hx,_,rfl,ZD ⟨_,rfl,_,_,_,_,rfl,.int _,kit K "int" "bool" false (by decide+kernel),_,rfl,ZD ⟨_,rfl,_,rfl,_,_,rfl,rfl,rfl,_,rfl,?_⟩⟩⟩⟩
  rw[decide_eq_true rfl]
  have s12:=Same.trans s1 s2
  exact ZD (r10 G2 p r qa n g ts es tl _ _ _ _ _ _ _ (N.same s12) c (s12 _ _ b) h hC hg hg9)
 ·exact r10 G p r qa n g ts es tl _ _ _ _ _ _ _ N c b h hC hg hg9
theorem ZkA{f}{cdv}{A:Around}{outer:List _}{s}{H}{E:XK}{Q:VK}(T:Bi mg)(hr:Room 12 (A.deeper (PyProof.Rows.envOfC "law" (Zh JM) s.heap.objs.size f cdv)))(FD:FnE P w K mg base "_law_draw" ["_law_script","_law_k"] 1 (JD K))(FA:FnE P w K mg base "_law_asked" pAs 11 spAs)(FTi:FnE P w K mg base "_law_tinting" ["_law_script","_law_at","_law_net_here","_law_menu"] 2 (Zil K))(q:∀H',Q (.bl true) H'):
  ∃t,PSs (Yk CX0 P w K mg base Ze4 "law" (Zh JM) f cdv A outer s H E).nox ((ZK JM).drop 6) t/\∀(G:Hp)(a p qa:Addr)(ns:List Int)(n:Nat)(ts:List V)(es:List (Nat×Nat))(u1 u2:Option V),SqL K G a (ns.map V.int)->Dr ns->NetZ G p n qa ts es->es.length<=28->
   t {nx:=fun _ H'=>Q .non H',rt:=Q} [some (.ref a),u1,u2,some (.ref p),none,none,none,none,none,none] G:=by
 obtain⟨t9,h9,r9⟩:=Zk9 (H:=H) (E:=E) (Q:=Q) (outer:=outer) T hr FD FA q
 refine⟨_,Zb (Zj (i:=4) scLaw.nd rfl (Or.inl rfl) (Z1 (Ji rfl) rfl T.list Zdb (Zc (Z1 Zbq rfl T.range ZdF (Zc (Zp Z4 Ze (Zp ZG (Zw FD (show Room 1 _ from hr.mono (by omega)) (Zc (pv 0) (Zc Ze Za))) Ze)) Za)) Za)))
  (Zb (Zj (i:=5) scLaw.nd rfl (Or.inl rfl) (Zw FTi (show Room 2 _ from hr.mono (by omega)) (Zc (pv 0) (Zc Ze (Zc (pv 3) (Zc (pv 4) Za))))))
  (Zb (Zj (i:=6) scLaw.nd rfl (Or.inl rfl) (Za8 rfl (Zch ZkY rfl (pv 5) (Z9 5) (fun C fp s H=>Zq (i:=0) ZlM rfl (Or.inl rfl)) (fun C fp s H=>Y8 (Zm Y9 (pv 0) ZM rfl)) (fun C fp s H=>pv 0)) Ze rfl T.max)) h9)),fun G a p qa ns n ts es u1 u2 hS hD N h28=>?_⟩
 refine⟨_,rfl,a,ns,2,rfl,hS,hD,by decide,by decide,_,_,rfl,rfl,(by show(0:Int)<6;decide),_,_,rfl,rfl,_,rfl,fun pr hpr=>?_⟩
 obtain⟨k,hk⟩:∃k:Nat,2+draw ns 2%6=(k:Int):=⟨(2+draw ns 2%6).toNat,by omega⟩
 rw[hk]
 refine⟨pr,k,rfl,Zd,by omega,fun B hme=>?_⟩
 have s1:Same G (upd (upd G pr (.rng 0 (k:Int))) B (.lst ((Y6 k).map V.int))):=Same.trans (Zi hpr) (Zi hme)
 have g1:upd (upd G pr (.rng 0 (k:Int))) B (.lst ((Y6 k).map V.int)) B=some (.lst (nl (List.range k))):=by rw[Zd,Zbb];rfl
 generalize upd (upd G pr (.rng 0 (k:Int))) B (.lst ((Y6 k).map V.int))=G1 at s1 g1
 refine⟨_,rfl,_,rfl,_,rfl,a,ns,200,p,n,qa,ts,es,B,_,rfl,s1.seq hS,hD,by decide,by decide,h28,N.same s1,g1,by rw[List.length_range];omega,fun G2 r tl s2 d htl hin hC=>⟨_,rfl,r,_,rfl,SqT.of d,(by rw[Yp];omega),fun i ys σ J=>Same G2 J/\(∃L:List Int,ys=L.map V.int/\L.length<=i/\(∀x∈L,∃t,some t∈tl/\x=(t:Int))/\∀(j t:Nat),j<i->tl[j]?=some (some t)->(t:Int)∈L)/\∃v0,σ=[v0],⟨Same.refl _,⟨[],rfl,Nat.le_refl _,(fun x hx=>by cases hx),fun j t h=>absurd h (Nat.not_lt_zero _)⟩,none,rfl⟩,fun i ys σ J hi⟨v,⟨L,e2,e3,_⟩,_⟩=>⟨SqT.of (v _ _ d),by rw[e2,List.length_map];exact e3⟩,fun i y ys σ J hy xq1=>?_,fun ys σ J xq1 l G3 s3 hl3=>?_⟩⟩
 ·obtain⟨v,⟨L,e2,e3,e4,e6⟩,v0,e5⟩:=xq1
  subst e2 e5
  obtain⟨o,ho,rfl⟩:=Jk hy
  refine⟨_,rfl,rfl,_,rfl,?_⟩
  cases o with
  |none=>
   refine ZD ⟨v,⟨L,rfl,by omega,e4,fun j t hj b=>?_⟩,_,rfl⟩
   by_cases u:j=i
   ·subst u;rw[ho]at b;cases b
   ·exact e6 j t (by omega) b
  |some t=>
   refine YA ⟨_,rfl,v,⟨L++[(t:Int)],by rw[List.map_append];rfl,by rw[List.length_append];show L.length+1<=i+1;omega,fun x hx=>?_,fun j t' hj b=>?_⟩,_,rfl⟩
   ·rcases List.mem_append.mp hx with z|z
    ·exact e4 x z
    ·exact⟨t,List.mem_of_getElem? ho,List.mem_singleton.mp z⟩
   ·by_cases u:j=i
    ·subst u;rw[ho]at b;cases b
     exact List.mem_append.mpr (.inr (.head _))
    ·exact List.mem_append.mpr (.inl (e6 j t' (by omega) b))
 ·obtain⟨v,⟨L,e2,e3,e4,e6⟩,_⟩:=xq1
  subst e2
  have s23:=Same.trans v s3
  have D:=Same.trans s1 (Same.trans s2 s23)
  refine⟨l,L,rfl,SqL.of hl3,fun M hM=>?_⟩
  have c:∀t,some t∈tl->(t:Int)∈L:=fun t b=>by
   obtain⟨j,hj⟩:=List.getElem?_of_mem b
   exact e6 j t (by rw[Yp];exact(List.getElem?_eq_some_iff.mp hj).1) hj
  obtain⟨g,rfl,hg,hgk⟩:∃g:Nat,M=(g:Int)/\Gre tl g/\g<=900:=by
   rcases hM with⟨z1,z2⟩|⟨z1,z2⟩
   ·refine⟨0,z2,⟨fun t b=>?_,fun h=>absurd h (Nat.lt_irrefl _)⟩,by decide⟩
    have:=c t b
    rw[z1]at this
    cases this
   ·obtain⟨t,b,e⟩:=e4 M z1
    refine⟨t,e,⟨fun t' ht'=>?_,fun _=>b⟩,by have:=(fun t b=>List.mem_range.mp (hin t b)) t b;omega⟩
    have:=z2 _ (c t' ht')
    omega
  exact r9 G3 a p r qa ns n g ts es tl _ _ _ (D.seq hS) hD (N.same D) (by omega) (s23 _ _ d) htl hC hg hgk
end
theorem NetZ.ties{H}{p q}{n}{ts}{es}(N:NetZ H p n q ts es){k:Int}(hk:(n:Int)<=k):Ties H k ts:=fun t b=>by
 obtain⟨i,d⟩:=List.getElem?_of_mem b
 obtain⟨a,e,c⟩:=N.tie i t d
 have _:=N.len
 obtain⟨_,_,_⟩:=N.ok _ (getD_mem (show i<es.length by grind))
 exact⟨a,_,_,e,c,by omega,by omega,by omega,by omega,by omega⟩
section
variable{P:Program}{w:World}{K:PySem.W.Frag}{mg:Str->Option Value}{base:Heap}{Pt:Addr}
inductive ZdO(K:PySem.W.Frag)(Pt:Addr)(vs:List V)(H:Hp)(Q:VK)(_z3:XK):Prop
 |mk (a:Addr) (ns:List Int) (_:vs=[.ref a]) (_:SqL K H a (ns.map V.int)) (_:ns.length<=63) (_:TabI Pt lpos JA H) (_:∀H',Q (.bl true) H')
theorem ZiL{f}{fd}(F:Fun K "law" "law" JM f fd)(T:Bi mg)(FD:FnE P w K mg base "_law_draw" ["_law_script","_law_k"] 1 (JD K))(FN:FnE P w K mg base "_law_net" ["_law_script","_law_at","_law_most_points","_law_most_ties"] 6 (ZhI K Pt))(FA:FnE P w K mg base "_law_asked" pAs 11 spAs)(FTi:FnE P w K mg base "_law_tinting" ["_law_script","_law_at","_law_net_here","_law_menu"] 2 (Zil K))(FRn:FnE P w K mg base "_law_refused_net" ["_law_net_here"] 12 spRn):
  FnOk P w K mg base CX0 13 f fd ["_law_script"] (ZdO K Pt):=by
 refine F.ok (k:=12) scLaw (fun vs H Q E h=>?_) (fun cdv A outer s H vs Q E hr h=>?_)
 ·obtain⟨a,ns,rfl,_⟩:=h
  rfl
 ·obtain⟨a,ns,rfl,hS,hD,hTab,q⟩:=h
  have hr1:Room 1 _:=hr.mono (by omega)
  have hr6:Room 6 _:=hr.mono (by omega)
  obtain⟨t6,h6,r6⟩:=ZkA (H:=H) (E:=E) (Q:=Q) (outer:=outer) T hr FD FA FTi q
  obtain⟨t4,h4,r4⟩:∃t,PSs (Yk CX0 P w K mg base Ze4 "law" (Zh JM) f cdv A outer s H E).nox ((ZK JM).drop 4) t/\∀(G:Hp)(qa:Addr)(k:Nat)(ts:List V),SqL K G a (ns.map V.int)->G qa=some (.tup ts)->Ties G (k:Int) ts->3<=k->k<=9->1<=ts.length->ts.length<=19->
    t {nx:=fun _ H'=>Q .non H',rt:=Q} [some (.ref a),some (.int (k:Int)),some (.ref qa),none,none,none,none,none,none,none] G:=by
   refine⟨_,Zb (Zj (i:=3) scLaw.nd rfl (Or.inl rfl) (Z5 (Zc (pv 1) (Zc (pv 2) Za))))
    (Zb (Z0 (PW.pt (pw_or (Yc (ZS (Zw FRn hr (Zc (pv 3) Za)))) (pw_or1 (Yc (ZS (Zw FRn hr (Zc (Z5 (Zc (Zp Z4 (pv 1) Ze) (Zc (JT Zip (pv 2) Za7 (Za6 (ZaS JC Ze))) Za))) Za))))))) (Zg (Zs ZE)) Zt) h6),fun G qa k ts hSG hq hTi k3 k9 l1 l19=>⟨_,rfl,_,rfl,rfl,fun p G1 s1 hp=>?_⟩⟩
   obtain⟨es,N⟩:=Za9 (n:=(k:Int)) hp (s1 _ _ hq) (by omega) (hTi.same s1) (by omega) (by omega) (Int.le_refl _)
   have hl:=N.len
   refine⟨_,rfl,p,_,qa,ts,es,rfl,N,by omega,by omega,fun G2 s2=>⟨_,rfl,ZD ?_⟩⟩
   have s12:=Same.trans s1 s2
   refine⟨_,rfl,_,_,rfl,rfl,_,rfl,3,rfl,_,rfl,qa,ts,rfl,SqT.of (s12 _ _ hq),?_,fun pc hpc=>⟨rfl,fun p2 G4 s4 hp2=>?_⟩⟩
   ·intro z
    have:=z.2
    have e:HT.sIx ts.length ts.length (some (-3))=(-3+(ts.length:Int)).toNat:=rfl
    rw[e]at this
    omega
   ·have sc:Same G2 (upd G2 pc (.tup (Y5 ts none (some (-3))))):=Zi hpc
    have cl:=Y3 ts none (some (-3))
    have hT4:Ties G4 (k:Int) (Y5 ts none (some (-3))):=(show Ties G2 (k:Int) (Y5 ts none (some (-3)))from fun t ht=>(hTi.same s12) t (List.mem_of_mem_drop (List.mem_of_mem_take ht))).same (Same.trans sc s4)
    obtain⟨es2,N2⟩:=Za9 (n:=(k:Int)) (m:=(k:Int)+1) hp2 (s4 _ _ Zd) (by omega) hT4 (by omega) (by omega) (by omega)
    have hl2:=N2.len
    refine⟨p2,_,pc,_,es2,rfl,N2,by omega,by omega,fun G5 s5=>⟨_,rfl,ZD ?_⟩⟩
    have s15:=Same.trans s2 (Same.trans sc (Same.trans s4 s5))
    exact r6 G5 a p qa ns _ ts es _ _ ((Same.trans s1 s15).seq hSG) hD (N.same s15) (by omega)
  refine⟨_,Zb (Yq (Zw FN hr6 (Zc (pv 0) (Zc Ze (Zc Ze (Zc Ze Za))))) (YB rfl (Zy (Zq (i:=1) scLaw.nd rfl (Or.inl rfl)) (Zy (Zq (i:=2) scLaw.nd rfl (Or.inl rfl)) Ya))))
   (Zb (Zj (i:=1) scLaw.nd rfl (Or.inl rfl) (Zn (ZbU rfl) rfl T.max Zjj (Zc Ze (Zc (pv 1) Za))))
   (Zb (Zj (i:=2) scLaw.nd rfl (Or.inl rfl) (Zp ZcD (pv 2) (Z5 (Zc (Z5 (Zc Ze (Zc (Zp Z4 Ze (Zp ZG (Zw FD hr1 (Zc (pv 0) (Zc Ze Za))) Ze)) Za))) Za))))
   (Zb (Z0 (Zm ZI (Zp ZG (Zw FD hr1 (Zc (pv 0) (Zc Ze Za))) Ze) Ze (Zv _))
    (Zg (Zj (i:=2) scLaw.nd rfl (Or.inl rfl) (Zp ZcD (pv 2) (Z5 (Zc (Z5 (Zc Ze (Zc Ze Za))) (Zc (Z5 (Zc Ze (Zc Ze Za))) (Zc (Z5 (Zc Ze (Zc Ze Za))) Za))))))) Zt) h4))),_,rfl,a,ns,3,9,15,rfl,hS,hD,by decide,by decide,by decide,by decide,by decide,by decide,hTab,fun H1 p n qa ts es g1 N n2 n9 e15=>?_⟩
  have hS1:=g1.sqL hTab hS
  refine⟨p,_,rfl,SqT.of N.e1,rfl,_,_,rfl,_,_,rfl,rfl,_,rfl,_,_,rfl,?_⟩
  obtain⟨k,hk,hk3,hk9,hkn⟩:∃k:Nat,(if(n:Int)>3 then(n:Int)else 3)=(k:Int)/\3<=k/\k<=9/\n<=k:=by
   split
   ·exact⟨n,rfl,by omega,by omega,Nat.le_refl _⟩
   ·exact⟨3,rfl,by decide,by decide,by omega⟩
  dsimp only[JY]
  rw[hk]
  have hTi:=N.ties (k:=(k:Int)) (by omega)
  have hl:=N.len
  refine⟨_,rfl,_,rfl,a,ns,0,rfl,hS1,hD,by decide,by decide,_,_,rfl,rfl,(by show(0:Int)<2;decide),_,_,rfl,rfl,rfl,fun t1 G1 s1 h1=>⟨rfl,fun t2 G2 s2 h2=>⟨qa,t2,ts,_,rfl,rfl,s2 _ _ (s1 _ _ N.e2),h2,by show ts.length+1<=100000;omega,fun q2 G3 s3 h3=>?_⟩⟩⟩
  have s13:=Same.trans s1 (Same.trans s2 s3)
  have b1:=Yh (n:=draw ns 0) (p:=2) (by decide)
  have b2:=Yn (n:=draw ns 0) (p:=2) (by decide)
  have hTi3:Ties G3 (k:Int) (ts++[.ref t1]):=fun u hu=>by
   rcases List.mem_append.mp hu with z|z
   ·exact(hTi.same s13) u z
   ·rw[List.mem_singleton.mp z]
    exact⟨t1,_,_,rfl,s3 _ _ (s2 _ _ h1),by omega,by omega,by omega,by omega,by omega⟩
  refine⟨_,rfl,a,ns,1,rfl,s13.seq hS1,hD,by decide,by decide,_,_,rfl,rfl,(by show(0:Int)<2;decide),rfl,_,rfl,ZF (fun _=>?_) (fun _=>?_)⟩
  ·refine⟨_,rfl,rfl,fun x1 I1 w1 y1=>⟨rfl,fun x2 I2 w2 y2=>⟨rfl,fun x3 I3 w3 y3=>⟨rfl,fun x4 I4 w4 y4=>⟨q2,x4,_,_,rfl,rfl,w4 _ _ (w3 _ _ (w2 _ _ (w1 _ _ h3))),y4,by rw[List.length_append];show ts.length+1+3<=100000;omega,fun q3 I5 w5 y5=>?_⟩⟩⟩⟩⟩
   have W:=Same.trans w1 (Same.trans w2 (Same.trans w3 (Same.trans w4 w5)))
   refine r4 I5 q3 k _ ((Same.trans s13 W).seq hS1) y5 (fun u hu=>?_) hk3 hk9 (by rw[List.length_append,List.length_append];show 1<=ts.length+1+3;omega) (by rw[List.length_append,List.length_append];show ts.length+1+3<=19;omega)
   rcases List.mem_append.mp hu with z|z
   ·exact(hTi3.same W) u z
   ·simp[List.mem_cons,List.not_mem_nil,or_false]at z
    rcases z with rfl|rfl|rfl
    ·exact⟨x1,_,_,rfl,w5 _ _ (w4 _ _ (w3 _ _ (w2 _ _ y1))),by omega,by omega,by omega,by omega,by omega⟩
    ·exact⟨x2,_,_,rfl,w5 _ _ (w4 _ _ (w3 _ _ y2)),by omega,by omega,by omega,by omega,by omega⟩
    ·exact⟨x3,_,_,rfl,w5 _ _ (w4 _ _ y3),by omega,by omega,by omega,by omega,by omega⟩
  ·exact r4 G3 q2 k _ (s13.seq hS1) h3 hTi3 hk3 hk9 (by rw[List.length_append];show 1<=ts.length+1;omega) (by rw[List.length_append];show ts.length+1<=19;omega)
end
end My
open PySem PySem.Spec PyProof.Rows
namespace L2
structure Df(K:PySem.W.Frag)(mg:Str->Option Value)(x:Str)(st:Stmt)(ps:List Str)(f:Addr)(fd:FuncData):Prop where
 g:mg x=some (.ref f)
 F:Fun K x x st f fd
 b:∀(kV doc pm:Value)(an:Option Addr)(cdv ct:Value)(us:List Value),us.length=ps.length->bindArgs (PySem.W.fnOf x x (J8 st) (ZK st) (Zh st) .none kV doc pm an cdv ct) ⟨us,[]⟩=pure (ps.zip us)
structure Dm(K:PySem.W.Frag)(C:Addr)(m q:Str)(st:Stmt)(ps:List Str)(f:Addr)(fd:FuncData):Prop where
 M:ZdI K C m f
 F:Fun K m q st f fd
 b:∀(kV doc pm:Value)(an:Option Addr)(cdv ct:Value)(us:List Value),us.length=ps.length->bindArgs (PySem.W.fnOf m q (J8 st) (ZK st) (Zh st) .none kV doc pm an cdv ct) ⟨us,[]⟩=pure (ps.zip us)
section
variable{K:PySem.W.Frag}{mg:Str->Option Value}{x q:Str}{st:Stmt}{ps:List Str}{f c:Addr}{fd:FuncData}{n j:Nat}{sp:Sp}(P:Program)(w:World)(base:Heap)
theorem Df.k(D:Df K mg x st ps f fd):PySem.W.keepIn K (.ref f)=true:=D.F.kp
theorem Df.B(D:Df K mg x st ps f fd):Binds K fd ps []:=D.F.binds D.b
theorem Df.e(D:Df K mg x st ps f fd)(h:FnOk P w K mg base CX0 n f fd ps sp):FnE P w K mg base x ps n sp:=⟨⟨f,fd,h,D.g,D.k,D.B⟩⟩
theorem Dm.B(D:Dm K c x q st ps f fd):Binds K fd ps []:=D.F.binds D.b
theorem Dm.e(mg:Str->Option Value)(D:Dm K c x q st ps f fd)(C:Cls K c)(h:FnOk P w K mg base CX0 n f fd ps sp):MeE P w K mg base c x ps n sp:=⟨⟨f,fd,h,D.M,C,D.B⟩⟩
theorem FnE.up{P:Program}{w:World}{base:Heap}(F:FnE P w K mg base x ps j sp)(h:j<=n:=by decide):FnE P w K mg base x ps n sp:=F.mono h
theorem MeE.up{P:Program}{w:World}{base:Heap}(F:MeE P w K mg base c x ps j sp)(h:j<=n:=by decide):MeE P w K mg base c x ps n sp:=F.mono h
end
structure Dc(K:PySem.W.Frag)(mg:Str->Option Value)(x:Str)(st:Stmt)(ps:List Str)(f:Addr)(fd:FuncData)(c Q:Addr):Prop where
 g:mg x=some (.ref f)
 F:FunC K x x st f fd c
 k:PySem.W.keepIn K (.ref f)=true
 h:PySem.W.codeHdIn K c Q=true
 B:Binds K fd ps []
theorem Dc.e{K:PySem.W.Frag}{mg:Str->Option Value}{x:Str}{st:Stmt}{ps:List Str}{f c Q:Addr}{fd:FuncData}{k:Nat}{sp:Sp}(P:Program)(w:World)(base:Heap)(D:Dc K mg x st ps f fd c Q)(h:FnOk P w K mg base CX0 k f fd ps sp):FnE P w K mg base x ps k sp:=⟨⟨f,fd,h,D.g,D.k,D.B⟩⟩
structure Dd(K:PySem.W.Frag)(mg:Str->Option Value)(x:Str)(st:Stmt)(ps:List Str)(f:Addr)(fd:FuncData):Prop where
 g:mg x=some (.ref f)
 F:FunD K x x st f fd
 k:PySem.W.keepIn K (.ref f)=true
 B:Binds K fd ps []
theorem Dd.e{K:PySem.W.Frag}{mg:Str->Option Value}{x:Str}{st:Stmt}{ps:List Str}{f:Addr}{fd:FuncData}{k:Nat}{sp:Sp}(P:Program)(w:World)(base:Heap)(D:Dd K mg x st ps f fd)(h:FnOk P w K mg base CX0 k f fd ps sp):FnE P w K mg base x ps k sp:=⟨⟨f,fd,h,D.g,D.k,D.B⟩⟩
end L2
namespace My
open PySem L2
theorem Zja{K:PySem.W.Frag}{P:Addr}(h:(K.any fun p=>PySem.W.codeHdIn K p.1 P)=true):∃c,PySem.W.codeHdIn K c P=true:=let⟨p,_,e⟩:=List.any_eq_true.mp h;⟨p.1,e⟩
theorem all_mk{P:Program}{w:World}{K:PySem.W.Frag}{mg:Str->Option Value}{fa Pt c36 cM f1 f2 f3 f4 f5 f6 f7 f8 f9 f10 f11 f12 f13 f14 f15 f16 f17 f18 f19 f20 f21 f22 f23 f24 f25 f26 f27 f28 f29 f30 f31 f32 f33 f34 f35 f36 f37 f38 f39 f40 f41 f42 f43 f44 f45 fN fA fR fP fIR fIF:Addr}{d1 d2 d3 d4 d5 d6 d7 d8 d9 d10 d11 d12 d13 d14 d15 d16 d17 d18 d19 d20 d21 d22 d23 d24 d25 d26 d27 d28 d29 d30 d31 d32 d33 d34 d35 d36 d37 d38 d39 d40 d41 d42 d43 d44 d45 dN dA dR dP dIR dIF:FuncData}{tA:Tok}{cTE cR cA cF cX1 cX2 cX3 cX4 cX5 cX6 cX7 cX8:Addr}(hfa:mg "law"=some (.ref fa))
  (D1:Df K mg "neighbours" Sd.sNb ["net"] f1 d1)(D2:Df K mg "spread" Sd.sSpr ["tied","row","above","root"] f2 d2)(D3:Df K mg "closed" Sd.sCl ["above","one","other"] f3 d3)(D4:Df K mg "sides" Sd.sSd ["net"] f4 d4)(D5:Df K mg "is_number" Zir ["thing"] f5 d5)(D6:Df K mg "is_below" Ziu ["thing","bound"] f6 d6)(D7:Df K mg "most_of" sMo ["net"] f7 d7)(D8:Df K mg "tints_at" sTa ["net","tints","point"] f8 d8)(D9:Df K mg "free_tints" sFt ["net","tints","point","many"] f9 d9)(D10:Df K mg "free_at_both" sFb ["net","tints","one","other","many"] f10 d10)(D11:Df K mg "across" sAc ["net","tie","point"] f11 d11)(D12:Df K mg "two_tinted" sTt ["net","tints","one","other"] f12 d12)(D13:Df K mg "chain" sCh ["net","tints","point","one","other"] f13 d13)(D14:Df K mg "turned" sTu ["net","tints","point","one","other"] f14 d14)(D15:Df K mg "is_tint" sIt ["thing"] f15 d15)(D16:Df K mg "is_clean" sPc ["net","tints"] f16 d16)(D17:Df K mg "is_turn_step" sTs ["net","thing"] f17 d17)(D18:Df K mg "is_tint_step" sTn ["net","thing"] f18 d18)(D19:Df K mg "is_step" sIs ["net","thing"] f19 d19)(D20:Df K mg "done" sDo ["net","tints","step"] f20 d20)(D21:Df K mg "walked" sWa ["net","tints","steps"] f21 d21)(D22:Df K mg "behind" sBh ["net","tints","steps"] f22 d22)(D23:Df K mg "way_or_manifold" sWm ["way"] f23 d23)(D24:Dd K mg "tinted" ZgH ["net","way"] f24 d24)(D25:Df K mg "ties_of_tint" sTo ["tints","tint"] f25 d25)(D26:Df K mg "all_meet" sAm ["net"] f26 d26)(D27:Df K mg "ties_at" sAt ["net","point"] f27 d27)(D28:Df K mg "crowd" sCr ["net","point"] f28 d28)(D29:Df K mg "rounds" sRd ["net"] f29 d29)(D30:Df K mg "counts" sCo ["tints","many"] f30 d30)(D31:Df K mg "point_of_surplus" sPs ["net","tints","one","other"] f31 d31)(D32:Df K mg "evening_step" sEs ["net","tints","many"] f32 d32)(D33:Df K mg "evened" sEv ["net","tints","many"] f33 d33)(D34:Df K mg "_law_draw" Zfo ["_law_script","_law_k"] f34 d34)(D35:Df K mg "_law_pair" Zfn ["_law_number","_law_points","_law_way","_law_half"] f35 d35)(D36:Dc K mg "_law_ties" Zc6 ["_law_script","_law_at","_law_points","_law_many","_law_way"] f36 d36 c36 Pt)(D37:Df K mg "_law_net" Zis ["_law_script","_law_at","_law_most_points","_law_most_ties"] f37 d37)(D38:Df K mg "_law_tinting" sTi ["_law_script","_law_at","_law_net_here","_law_menu"] f38 d38)(D39:Df K mg "_law_is_ring" sRi ["_law_net_here","_law_row"] f39 d39)(D40:Df K mg "_law_kinds" sKi ["_law_e"] f40 d40)(D41:Df K mg "_law_asked" sAs ["_law_way","_law_net_here","_law_tints","_law_many"] f41 d41)(D42:Df K mg "_law_two_sides" sTz ["_law_net_here"] f42 d42)(D43:Df K mg "_law_alike" sAl ["_law_net_here"] f43 d43)(D44:Df K mg "_law_refused_net" sRn ["_law_net_here"] f44 d44)(D45:Df K mg "law" JM ["_law_script"] f45 d45)(gM:mg "TwoSided"=some (.ref cM))(DN:Dm K cM "needed" "TwoSided.needed" sNd ["self","most"] fN dN)(DA:Dm K cM "asked" "TwoSided.asked" sAk ["self","net"] fA dA)(DR:Dm K cM "made_room" "TwoSided.made_room" sMr ["self","net","tints","tie","many"] fR dR)(DP:Dm K cM "put" "Way.put" Ziq ["self","net","tints","tie","many"] fP dP)(CM:Cls K cM)(mM:Mk0 K cM)(zA:mg "ALL_TINTS"=some (.int 1000 tA))(GK:Gk mg cR cA cF cX1 cX2 cX3 cX4 cX5 cX6 cX7 cX8 cTE)(hCx9:PySem.W.mroIn K cTE (.type "BaseException")=some true)(hCxnA:RX.Zen K cA=true)(hCxcA:RX.Zcx K cA cTE=true)(kpA:PySem.W.keepIn K (.ref cA)=true)(W0:Kk K cR cA cF cX1 cX2 cX3 cX4 cX5 cX6 cX7 cX8 cTE cR 0)(XCR:RX.XCl K cR cTE)(DIR:Dm K cR "__init__" "NotTwoSided.__init__" sIr ["self","ring"] fIR dIR)(neR:PySem.W.findIn K (.ref cR) "ring"=some none)(W1:Kk K cR cA cF cX1 cX2 cX3 cX4 cX5 cX6 cX7 cX8 cTE cA 1)(W2:Kk K cR cA cF cX1 cX2 cX3 cX4 cX5 cX6 cX7 cX8 cTE cF 2)(XCF:RX.XCl K cF cTE)(DIF:Dm K cF "__init__" "TooFew.__init__" sTf ["self","need"] fIF dIF)(neF:PySem.W.findIn K (.ref cF) "need"=some none)(T:Bi mg)(z12:mg "sorted"=none)(z13:mg "str"=none)(z14:mg "reversed"=none)(z15:mg "enumerate"=none)(z16:mg "set"=none)(z17:mg "all"=none)(hb:∀s v,BindsTo s d45 ⟨[v],[]⟩ [("_law_script",v)])
  :∃fd:FuncData,(∀(s:Shared)(v:Value),BindsTo s fd ⟨[v],[]⟩ [("_law_script",v)])/\∀base:Heap,K.In base->base.Ns mainGlobals mg->BM mg base->FnOk P w K mg base CX0 13 fa fd ["_law_script"] (ZdO K Pt):=by
 cases hfa.symm.trans D45.g
 refine⟨_,hb,fun base _ _ hbm=>?_⟩
 have E1:=D1.e P w base (Sd.ok_nb D1.F T)
 have E2:=D2.e P w base (Sd.ok_spr D2.F T)
 have E3:=D3.e P w base (Sd.ok_cl D3.F T z14)
 have E4:=D4.e P w base (Sd.ok_sd D4.F T E1 E2 E3)
 have E5:=D5.e P w base (ZiJ D5.F T)
 have E6:=D6.e P w base (ZiP D6.F E5)
 have E7:=D7.e P w base (Zkg D7.F T)
 have E8:=D8.e P w base (ZjY D8.F T)
 have E9:=D9.e P w base (Zkl D9.F T E8)
 have E10:=D10.e P w base (Zkm D10.F T E8.up E9)
 have MN:=DN.e P w base mg CM (Zke DN.F)
 have MA:=DA.e P w base mg CM (Zkz DA.F E4)
 have MR:=DR.e P w base mg CM (Zkf DR.F E9)
 have MP:=DP.e P w base mg CM (ZiI DP.F T E6.up E7.up E10 MN.up MA MR)
 have E11:=D11.e P w base (Zk0 D11.F)
 have E12:=D12.e P w base (ZjS D12.F T z15)
 have E13:=D13.e P w base (Zks D13.F T z12 E12 E11)
 have E14:=D14.e P w base (ZjR D14.F T E13)
 have E15:=D15.e P w base (Zki D15.F zA E6)
 have E16:=D16.e P w base (Zkd D16.F T)
 have E17:=D17.e P w base (ZjT D17.F T E6.up E15)
 have E18:=D18.e P w base (ZjV D18.F T E6.up E15)
 have E19:=D19.e P w base (ZiM D19.F T z13 E17 E18)
 have E20:=D20.e P w base (ZiO D20.F T E19 E14.up E16.up)
 have E21:=D21.e P w base (ZjP D21.F E20)
 have E22:=D22.e P w base (Zkt D22.F E21)
 have E23:=D23.e P w base (ZjO D23.F)
 have E24:=D24.e P w base (ZiF D24.F T E23.up E7.up MA.up MN.up MP.up E22)
 have E25:=D25.e P w base (ZjU D25.F T z15)
 have E27:=D27.e P w base (Zkv D27.F T z15)
 have E28:=D28.e P w base (Zkq D28.F T E27)
 have E19b:=D19.e P w base (Zkj D19.F T z13 E17)
 have E20b:=D20.e P w base (Zkp D20.F E19b E14.up)
 have E30:=D30.e P w base (Zkr D30.F T)
 have E31:=D31.e P w base (Zkc D31.F T E13.up)
 have E32:=D32.e P w base (Zko D32.F T T.max T.min E30.up E31)
 have E34:=D34.e P w base (ZgW D34.F T)
 have E35:=D35.e P w base (ZgV D35.F)
 have E36:=D36.e P w base (ZgU D36.F T z12 hbm D36.h E34 E35)
 have E37:=D37.e P w base (ZiK D37.F T E34 E36)
 have E38:=D38.e P w base (ZjW D38.F T E34)
 have E39:=D39.e P w base (Zka D39.F T z16)
 have GR:GrF P w K mg base "NotTwoSided" "ring" cR:=⟨⟨cTE,_,_,XCR,DIR.M.1,DIR.M.2,Zkk DIR.F XCR neR,DIR.B⟩,GK.gR⟩
 have GF:GrF P w K mg base "TooFew" "need" cF:=⟨⟨cTE,_,_,XCF,DIF.M.1,DIF.M.2,ZjX DIF.F XCF neF,DIF.B⟩,GK.gT⟩
 have AX:=Zku DA.F GR E4
 have TDX:=ZiE D24.F E23.up CM DA.M AX DA.B
 have RZ:FnOk P w K mg base (RX.CXe P w) 10 f29 _ ["net"] (ZhE cR cA):=FnOk.or (FnOk.or (FnOk.x (Zkb D29.F T z17 gM mM MA.up E7.up E28.up E24 E25.up)) (ZiG D29.F gM mM CM DA.M AX DA.B)) (ZiH D29.F T z17 gM mM MA.up E7.up E28.up hCxcA hCxnA kpA GK.gA)
 have AZ:FnOk P w K mg base (RX.CXe P w) 10 f26 _ ["net"] (ZhL cR):=FnOk.or (FnOk.x (Zkx D26.F gM mM E24 E25.up)) (ZiQ D26.F gM mM TDX D24.g D24.k D24.B E25.up)
 have EZ:FnOk P w K mg base (RX.CXe P w) 10 f33 _ ["net","tints","many"] (ZhJ cF):=(FnOk.or (FnOk.x (Zkn D33.F T.max E32 E20b.up)) (ZiN D33.F T.max GF)).mono (by decide)
 have KI:=Zkh (P:=P) (w:=w) (base:=base) D40.F T GK
 have E41:=D41.e P w base (Zkw D41.F GK W0.gt.4 W2.gt.4 hCx9 W0 W1 W2 neR neF RZ D29.g D29.k D29.B AZ D26.g D26.k D26.B EZ D33.g D33.k D33.B KI D40.g D40.k D40.B)
 have E42:=D42.e P w base (ZjQ D42.F T)
 have E43:=D43.e P w base (Zky D43.F T)
 have E44:=D44.e P w base (ZjZ D44.F E41 E42 E43 E39)
 exact ZiL D45.F T E34 E37 E41 E38 E44
theorem walk{l:PySem.W.OpenLaw}{q:Program}{loose:List Str}{XP:(Str->Option Value)->Heap->Prop}{YP:World->Heap->Prop}{d:DefRec}{K:Params->PySem.W.Frag}{Pt:Addr}(hn:l.most=some 63)(hdf:d.params.defaults=[])
  (hY:∀(w:World)(h:Heap),YP w h->(K w.params).In h) (hY2:∀(w:World)(h:Heap),YP w h->∀Q∈[Pt],h.get? Q=some (PySem.W.tabObj #[])) (hKn:∀w:World,PySem.W.noTabs (K w.params)=true) (hC:∀w:World,∀Q∈[Pt],∃c,PySem.W.codeHdIn (K w.params) c Q=true)
  (F:∀(w:World)(mg:Str->Option Value)(fa:Addr)(h:Heap),(K w.params).In h->h.Ns mainGlobals mg->mg d.name=some (.ref fa)->
   ∃fd:FuncData,(∀(s:Shared)(u:Value),BindsTo s fd ⟨[u],[]⟩ [("_law_script",u)])/\∀base:Heap,(K w.params).In base->base.Ns mainGlobals mg->BM mg base->FnOk l.prog w (K w.params) mg base CX0 13 fa fd ["_law_script"] (ZdO (K w.params) Pt)):
  PySem.W.WalkO q loose XP YP l.row.toRowW d [] (fun f vs=>PySem.call f vs):=
 ZeW (n:=63) (k:=13) (x:="_law_script") (ts:=[Pt]) (sp:=fun K=>ZdO K Pt) hn (by decide) hdf ⟨rfl,by decide,by decide⟩ hY hY2 hKn hC F
  (fun K H a ns hl hT hS=>⟨a,ns,rfl,hS,hl,.inl (hT Pt (.head _)),fun _=>rfl⟩)
end My
open PySem PySem.W PyProof.Rows
def PySem.W.Fast.tw10191763883219702569:Unit:=()
def PySem.W.Fast.tw7663868601969098574:Unit:=()
def PySem.W.Fast.tw15762883348635840068:Unit:=()
def PySem.W.Fast.tw2000178787509568256:Unit:=()
def PySem.W.Fast.tw12956228644132724904:Unit:=()
def PySem.W.Fast.tw10232953562426648946:Unit:=()
def PySem.W.Fast.tw6951090639051661619:Unit:=()
def PySem.W.Fast.tw1610982337981129097:Unit:=()
def PySem.W.Fast.tw1311765793100123991:Unit:=()
def PySem.W.Fast.tw9916929864733299427:Unit:=()
def PySem.W.Fast.tw1518007599369865136:Unit:=()
def PySem.W.Fast.tw14670813065375208164:Unit:=()
def PySem.W.Fast.tw2629511648923434836:Unit:=()
def PySem.W.Fast.tw12464803074398400704:Unit:=()
def PySem.W.Fast.tw7415860608701957530:Unit:=()
def PySem.W.Fast.tw18119738610814330074:Unit:=()
def PySem.W.Fast.tw4151533336805693303:Unit:=()
def PySem.W.Fast.tw6539553106019206691:Unit:=()
def PySem.W.Fast.tw17761058023723516667:Unit:=()
def PySem.W.Fast.tw2853561270964547679:Unit:=()
def PySem.W.Fast.tw13354241907631862740:Unit:=()
def PySem.W.Fast.tw15287753073717022874:Unit:=()
def PySem.W.Fast.tw2052464818665084233:Unit:=()
def PySem.W.Fast.tw15212741849866554756:Unit:=()
def PySem.W.Fast.tw18124433580162964943:Unit:=()
def PySem.W.Fast.tw9321901204003980175:Unit:=()
def PySem.W.Fast.tw4012408809646000002:Unit:=()
def PySem.W.Fast.tw9956827687335668785:Unit:=()
def PySem.W.Fast.tw12045592527475385608:Unit:=()
def PySem.W.Fast.tw8914981132111987740:Unit:=()
def PySem.W.Fast.tw5010597535574443956:Unit:=()
def PySem.W.Fast.tw4704540238634034992:Unit:=()
def PySem.W.Fast.tw5632015855694132360:Unit:=()
def PySem.W.Fast.tw12169492394495275242:Unit:=()
def PySem.W.Fast.tw7445980603609702237:Unit:=()
def PySem.W.Fast.tw10540500694379791774:Unit:=()
def PySem.W.Fast.tw13946758428047825299:Unit:=()
def PySem.W.Fast.tw17483869001654553364:Unit:=()
def PySem.W.Fast.tw9499580729520874639:Unit:=()
def PySem.W.Fast.tw6222149642727766994:Unit:=()
def PySem.W.Fast.tw13657838403710097755:Unit:=()
def PySem.W.Fast.tw1381299085375886568:Unit:=()
def PySem.W.Fast.tw362747416990089070:Unit:=()
def PySem.W.Fast.tw5992578240738513364:Unit:=()
def PySem.W.Fast.tw2508829386851277934:Unit:=()
def PySem.W.Fast.tw1574415082926410036:Unit:=()
def PySem.W.Fast.tw11885404124651329310:Unit:=()
def PySem.W.Fast.tw2602320851026478370:Unit:=()
def PySem.W.Fast.tw8221794510816423407:Unit:=()
def PySem.W.Fast.tw3671295802316628633:Unit:=()
def PySem.W.Fast.tw17212341273774351456:Unit:=()
def PySem.W.Fast.tw14616224851616052894:Unit:=()
def PySem.W.Fast.tw16594571527720691061:Unit:=()
def PySem.W.Fast.tw18396404477178486015:Unit:=()
def PySem.W.Fast.tw2725195865256785658:Unit:=()
def PySem.W.Fast.tw14066769016670964013:Unit:=()
def PySem.W.Fast.tw6352266399729076492:Unit:=()
def PySem.W.Fast.tw7765872588087495000:Unit:=()
def PySem.W.Fast.tw9788119702892120037:Unit:=()
def PySem.W.Fast.tw5384594571218802642:Unit:=()
def PySem.W.Fast.tw4919003051414847016:Unit:=()
def PySem.W.Fast.tw5283184395325572564:Unit:=()
def PySem.W.Fast.tw17046459365056060989:Unit:=()
def PySem.W.Fast.tw18052044313047716124:Unit:=()
def PySem.W.Fast.tw17277087141781735580:Unit:=()
def PySem.W.Fast.tw5303402470709791329:Unit:=()
def PySem.W.Fast.tw620795782969136797:Unit:=()
def PySem.W.Fast.tw2889169785142662021:Unit:=()
def PySem.W.Fast.tw1069719573512586283:Unit:=()
def PySem.W.Fast.tw1867764756765543874:Unit:=()
def PySem.W.Fast.tw17315529835849390121:Unit:=()
def PySem.W.Fast.tw8476752340878777526:Unit:=()
def PySem.W.Fast.tw2057587041286137873:Unit:=()
def PySem.W.Fast.tw6946991683505126043:Unit:=()
def PySem.W.Fast.tw8505136253800541614:Unit:=()
def PySem.W.Fast.tw63528638395701492:Unit:=()
def PySem.W.Fast.tw2766442977273431264:Unit:=()
def PySem.W.Fast.tw2526193019506424434:Unit:=()
def PySem.W.Fast.tw10270607870587250266:Unit:=()
def PySem.W.Fast.tw203918788711788334:Unit:=()
def PySem.W.Fast.tw17527685524209106673:Unit:=()
def PySem.W.Fast.tw536193973046291628:Unit:=()
def PySem.W.Fast.tw9089261123745884104:Unit:=()
def PySem.W.Fast.tw12249058297306822547:Unit:=()
def PySem.W.Fast.tw10568915734831467180:Unit:=()
def PySem.W.Fast.tw9598945029966201132:Unit:=()
def PySem.W.Fast.tw1467140714307929699:Unit:=()
def PySem.W.Fast.tw7441988047254818008:Unit:=()
def PySem.W.Fast.tw197387088973584647:Unit:=()
def PySem.W.Fast.tw5484566532194097495:Unit:=()
def PySem.W.Fast.tw92001388482453901:Unit:=()
def PySem.W.Fast.tw7424060572676598424:Unit:=()
def PySem.W.Fast.tw16294898151280199504:Unit:=()
def PySem.W.Fast.tw16014438839256783167:Unit:=()
def PySem.W.Fast.tw11256859431224546355:Unit:=()
def PySem.W.Fast.tw12168145303061115389:Unit:=()
def PySem.W.Fast.tw11262665798509594132:Unit:=()
def PySem.W.Fast.tw14777619844825884539:Unit:=()
def PySem.W.Fast.tw17541892932893019690:Unit:=()
def PySem.W.Fast.tw1532769222542798634:Unit:=()
def PySem.W.Fast.tw16059929469386109090:Unit:=()
def PySem.W.Fast.tw9797850356284689118:Unit:=()
def PySem.W.Fast.tw6698419291286308373:Unit:=()
def PySem.W.Fast.tw10433421340076589834:Unit:=()
def PySem.W.Fast.tw3632353586853580145:Unit:=()
def PySem.W.Fast.tw7465914791077860544:Unit:=()
def PySem.W.Fast.tw9128199168871394261:Unit:=()
def PySem.W.Fast.tw339366739848170284:Unit:=()
def PySem.W.Fast.tw8692691390520056392:Unit:=()
def PySem.W.Fast.tw15351753980199976595:Unit:=()
def PySem.W.Fast.tw16152213306794517578:Unit:=()
def PySem.W.Fast.tw10780254321846770894:Unit:=()
def PySem.W.Fast.tw16410414767073694702:Unit:=()
def PySem.W.Fast.tw9213022674774265039:Unit:=()
set_option maxRecDepth 100000 in
set_option maxHeartbeats 0 in
theorem PySem.Challenge.cw_tintties_k54_evened_and_rounds_refused_holds : PySem.Challenge.rw_tintties_k54_evened_and_rounds_refused.Holds := by
 w_on;o_law;k_head;(case hw=>w_witness2)
 k_fill
 refine My.walk (l:=PySem.Challenge.rw_tintties_k54_evened_and_rounds_refused) rfl rfl (fun w h Y=>PySem.W.km_in_of Y) (fun w h Y=>PySem.W.km_tabs_of Y) ?n ?c ?F
 case n=>intro w;kernel_rfl
 case c=>
  intro w Q hQ
  simp only[List.mem_cons,List.not_mem_nil,or_false]at hQ
  rcases hQ with rfl
  all_goals (refine My.Zja ?_;kernel_rfl)
 case F=>
  intro w mg fa h KX G hmg
  apply My.all_mk hmg
  all_goals repeat' first|(intro s v;exact .of_eq rfl)|(intro _ _ _ _ _ _ us hl;rcases us with _|⟨_,_|⟨_,_|⟨_,_|⟨_,_|⟨_,_|⟨_,_⟩⟩⟩⟩⟩⟩<;>first|rfl|(simp at hl;done))|(refine .all fun us hl=>?_;rcases us with _|⟨_,_|⟨_,_|⟨_,_|⟨_,_|⟨_,_|⟨_,_⟩⟩⟩⟩⟩⟩<;>first|rfl|(simp at hl;done))|(intro s us X hl;rw[List.append_nil]at hl⊢;rcases us with _|⟨_,_|⟨_,_|⟨_,_|⟨_,_|⟨_,_|⟨_,_⟩⟩⟩⟩⟩⟩<;>first|exact PySem.W.binds_K X rfl (by k_is) rfl rfl rfl|(simp at hl;done))|with_reducible refine' mg_of KX G ?_|with_reducible refine' mg_none_of KX G ?_|((with_reducible show kitOne _ _ _=_);kernel_rfl)|((with_reducible show kitCls _ _ _=_);kernel_rfl)|((with_reducible show mroIn _ _ _=_);kernel_rfl)|((with_reducible show RX.Zcx _ _ _=_);kernel_rfl)|((with_reducible show RX.Zen _ _=_);kernel_rfl)|((with_reducible show codeHdIn _ _ _=_);kernel_rfl)|k_is|constructor
#print axioms PySem.Challenge.cw_tintties_k54_evened_and_rounds_refused_holds
