import PyProof.Rows.All
import Wide.All
import OpenK.AllK
import Wide.FinOn
import Lean
import PyProof.EqAt
import PyProof.EqKinds
import PyProof.TupleCall
import PySem.SetTable
import PySem.SetOps
import PyProof.Rows.SetFrom
import PyProof.NeKinds
import PyProof.Rows.StrInSeq3
import PyProof.AttrMissHeap
import PyProof.Rows.SeqMore2
import PySem.Challenge.RW_tintties_k64_whole_fewest
set_option Elab.async false
set_option linter.all false
set_option maxRecDepth 100000
set_option maxHeartbeats 4000000
namespace L2
open PySem PySem.Spec PyProof.Rows
abbrev Key:=Sum Int Str
def ZbJ:Key->Value->Bool
 | .inl k,v=>Value.isInt k v
 | .inr x,v=>Value.isStrOf x v
def Zl2(w:World):Key->Int
 | .inl k=>hashInt k
 | .inr x=>hashStr w x
theorem ZU:∀{k:Key}{v:Value},ZbJ k v=true->(∃i t,k=Sum.inl i/\v=Value.int i t)\/(∃x t,k=Sum.inr x/\v=Value.str x t)
 | .inl i,v,h=>by
  obtain⟨t,e⟩:=Value.isInt_shape (k:=i) (v:=v) h
  exact .inl ⟨i,t,rfl,e⟩
 | .inr x,v,h=>by
  obtain⟨t,e⟩:=Value.isStrOf_shape (x:=x) (v:=v) h
  exact .inr ⟨x,t,rfl,e⟩
theorem ZeL(i:Int)(t:Tok):ZbJ (.inl i) (.int i t)=true:=by simp[ZbJ,Value.isInt]
theorem ZeK(x:Str)(t:Tok):ZbJ (.inr x) (.str x t)=true:=by simp[ZbJ,Value.isStrOf]
theorem ZiC(a b:Int):decide ((Sum.inl a:Key)=Sum.inl b)=(a==b):=by
 by_cases e:a=b
 ·subst e;simp
 ·have h:¬(Sum.inl a:Key)=Sum.inl b:=fun q=>e (Sum.inl.inj q)
  rw[decide_eq_false h]
  exact(beq_eq_false_iff_ne.mpr e).symm
theorem Zi9(a b:Str):decide ((Sum.inr a:Key)=Sum.inr b)=decide (a=b):=by
 by_cases e:a=b
 ·subst e;simp
 ·have h:¬(Sum.inr a:Key)=Sum.inr b:=fun q=>e (Sum.inr.inj q)
  rw[decide_eq_false h,decide_eq_false e]
theorem ZiB(a:Int)(b:Str):decide ((Sum.inl a:Key)=Sum.inr b)=false:=decide_eq_false (fun q=>nomatch q)
theorem ZiA(a:Str)(b:Int):decide ((Sum.inr a:Key)=Sum.inl b)=false:=decide_eq_false (fun q=>nomatch q)
def Z6(prog:Program)(w:World):PySem.KeyKind prog w Key where
 is:=ZbJ
 hash:=Zl2 w
 inj:=fun v a b ha hb=>by
  rcases ZU ha with⟨i,t,rfl,rfl⟩|⟨x,t,rfl,rfl⟩
  ·rcases ZU hb with⟨j,u,rfl,e⟩|⟨y,u,rfl,e⟩
   ·injection e with e1 _;rw[e1]
   ·exact nomatch e
  ·rcases ZU hb with⟨j,u,rfl,e⟩|⟨y,u,rfl,e⟩
   ·exact nomatch e
   ·injection e with e1 _;rw[e1]
 byValue:=fun k v h=>by
  rcases ZU h with⟨i,t,rfl,rfl⟩|⟨x,t,rfl,rfl⟩<;>rfl
 pyHash:=fun hv h=>by
  rcases ZU hv with⟨i,t,rfl,rfl⟩|⟨x,t,rfl,rfl⟩
  ·exact wpAny_pyHash_int h
  ·exact wpAny_pyHash_str h
 eqBool:=fun hu hv h=>by
  rcases ZU hu with⟨i,t,rfl,rfl⟩|⟨x,t,rfl,rfl⟩
  ·rcases ZU hv with⟨j,u,rfl,rfl⟩|⟨y,u,rfl,rfl⟩
   ·rw[ZiC]at h;exact wpAny_eqBool_int h
   ·rw[ZiB]at h;exact SeqAt.EqAt.int_str i t y u _ _ _ _ h
  ·rcases ZU hv with⟨j,u,rfl,rfl⟩|⟨y,u,rfl,rfl⟩
   ·rw[ZiA]at h;exact SeqAt.EqAt.str_int x t j u _ _ _ _ h
   ·rw[Zi9]at h;exact wpAny_eqBool_str h
 «strs»:=fun k x t v h=>by
  rcases ZU h with⟨i,u,rfl,e⟩|⟨y,u,rfl,e⟩
  ·exact nomatch e
  ·injection e with e1 _
   subst e1
   cases v<;>rfl
theorem ZcM(prog:Program)(w:World)(i:Int)(t:Tok):(Z6 prog w).is (.inl i) (.int i t)=true:=ZeL i t
theorem ZcL(prog:Program)(w:World)(x:Str)(t:Tok):(Z6 prog w).is (.inr x) (.str x t)=true:=ZeK x t
inductive V where
 |non|bl (b:Bool)|int (i:Int)|str (x:Str)|byt (b:Array UInt8)|flt (b:UInt64)|ref (a:Addr)|ty (n:String)
 deriving DecidableEq
def RelV:V->Value->Prop
 | .non,u=>u=Value.none
 | .bl b,u=>u=Value.bool b
 | .int i,u=>∃t,u=Value.int i t
 | .str x,u=>∃t,u=Value.str x t
 | .byt b,u=>∃t,u=Value.bytes b t
 | .flt b,u=>∃t,u=Value.float b t
 | .ref a,u=>u=Value.ref a
 | .ty n,u=>u=Value.type n
abbrev Vals:List V->List Value->Prop:=Paired RelV
theorem Vals.length{xs:List V}{us:List Value}(r:Vals xs us):xs.length=us.length:=Paired.length r
theorem Vals.get:∀{xs:List V}{us:List Value}{i:Nat}{x:V},Vals xs us->xs[i]?=some x->∃u,us[i]?=some u/\RelV x u
 |_,_,_,_,.nil,e=>by simp at e
 |_,_,0,_,.cons r _,e=>by simp at e;subst e;exact⟨_,rfl,r⟩
 |_,_,i+1,x,.cons _ t,e=>by
  obtain⟨u,h1,h2⟩:=Vals.get (i:=i) (x:=x) t (by simpa using e)
  exact⟨u,by simpa using h1,h2⟩
theorem Vals.set{x:V}{u:Value}(r:RelV x u):∀{xs:List V}{us:List Value}(i:Nat),Vals xs us->Vals (xs.set i x) (us.set i u)
 |_,_,_,.nil=> .nil
 |_,_,0,.cons _ t=> .cons r t
 |_,_,i+1,.cons q t=> .cons q (Vals.set r i t)
theorem Vals.append:∀{xs ys:List V}{us ws:List Value},Vals xs us->Vals ys ws->Vals (xs++ys) (us++ws)
 |_,_,_,_,.nil,s=>s
 |_,_,_,_,.cons r t,s=> .cons r (Vals.append t s)
theorem Vals.take:∀{xs:List V}{us:List Value}(n:Nat),Vals xs us->Vals (xs.take n) (us.take n)
 |_,_,0,_=> .nil
 |_,_,_+1,.nil=> .nil
 |_,_,n+1,.cons r t=> .cons r (Vals.take n t)
theorem Vals.drop:∀{xs:List V}{us:List Value}(n:Nat),Vals xs us->Vals (xs.drop n) (us.drop n)
 |_,_,0,r=>r
 |_,_,_+1,.nil=> .nil
 |_,_,n+1,.cons _ t=>Vals.drop n t
def RelO:Option V->Option Value->Prop
 |some v,some u=>RelV v u
 |none,none=>True
 |_,_=>False
def KV{κ:Type}:List (κ×V)->List (κ×Value)->Prop:=Paired fun(p:κ×V)(q:κ×Value)=>p.1=q.1/\RelV p.2 q.2
def kV:Key->V
 | .inl i=> .int i
 | .inr x=> .str x
inductive HO where
 |lst (xs:List V)
 |tup (xs:List V)
 |dK (kvs:List (Key×V))|dT (kvs:List (List Key×V))
 |set (S:Int->Bool) (n:Nat)
 |ins (C dx:Addr) (fs:List (Str×V))
 |own (x:Addr)
 |xd (fs:List (Str×V))
 |met (f x:Addr)
 |rng (lo hi:Int)
 |frz (o:Obj) (u:HO)
 |tbl (ps:Array Value)
 |ext (φ:Heap->Prop)
abbrev Hp:=Addr->Option HO
def upd(H:Hp)(a:Addr)(o:HO):Hp:=fun b=>if b=a then some o else H b
theorem Zf{H:Hp}{a:Addr}{o:HO}:upd H a o a=some o:=by unfold upd;rw[if_pos rfl]
theorem Zg{H:Hp}{a b:Addr}{o:HO}(h:b≠a):upd H a o b=H b:=by unfold upd;rw[if_neg h]
theorem Zca{H:Hp}{a:Addr}{o u:HO}:upd (upd H a o) a u=upd H a u:=by
 funext b;unfold upd;split<;>rfl
theorem Zbg{H:Hp}{a b:Addr}{o u:HO}(h:H a=some o)(h':H b=some u)(d:o≠u):a≠b:=by
 intro e;subst e;rw[h]at h';exact d (Option.some.inj h')
theorem Zz{H:Hp}{a b:Addr}{o:HO}(h:H a=some o)(h':H b=none):a≠b:=by
 intro e;subst e;rw[h]at h';cases h'
section
variable(P:Program)(w:World)
def ObjOk(H:Hp)(h:Heap)(a:Addr):HO->Prop
 | .lst xs=>xs.length<=sizeLine/\∃(its:List Value)(n:Nat),Vals xs its/\h.get? a=some {cls:= .type "list",data:= .seq its.toArray n}
 | .tup xs=>xs.length<=sizeLine/\∃its:List Value,Vals xs its/\IsTup h a its.toArray
 | .dK kvs=>kvs.length<=sizeLine/\(a==sysModules)=false/\∃vs,KV kvs vs/\h.DictOf (Z6 P w) a vs
 | .dT kvs=>kvs.length<=sizeLine/\(a==sysModules)=false/\∃xs:List (List Key×Addr×Value),
   Paired (fun(p:List Key×V)(q:List Key×Addr×Value)=>p.1=q.1/\H q.2.1=some (.tup (p.1.map kV))/\RelV p.2 q.2.2) kvs xs/\
   ∃o es ep,h.get? a=some o/\o.ExactDict/\o.data= .dict es ep/\es.toList=xs.map (entryOfKey (tupleKind (Z6 P w)))/\(xs.map (·.1)).Nodup
 | .set S n=>h.SetOf (intKind P w) a S n
 | .ins C dx fs=>H dx=some (.own a)/\fs.length<=1000/\dx≠a/\h.get? a=some (PySem.W.instObj C dx)/\
   ∃mA,h.Ns1 dx mA/\(∀f,RelO (fs.lookup f) (mA f))/\PySem.Within mA (fs.map (·.1))
 | .own _=>∃o,h.get? a=some o
 | .xd fs=>∃mA,h.Ns1 a mA/\∀f,RelO (fs.lookup f) (mA f)
 | .rng lo hi=>∃t u v,h.get? a=some {cls:= .type "range",data:= .fields #[.int lo t,.int hi u,.int 1 v]}
 | .frz o u=>h.get? a=some o/\ObjOk H h a u
 | .tbl ps=>h.get? a=some {cls:= .none,data:= .fields ps}
 | .met f x=>h.get? a=some (PySem.W.methodObj (.ref f) (.ref x))
 | .ext φ=>φ h/\(∃o,h.get? a=some o)/\∀h1 h2:Heap,φ h1->(∀o,h1.get? a=some o->h2.get? a=some o)->φ h2
def HOk(H:Hp)(h:Heap):Prop:=∀a o,H a=some o->ObjOk P w H h a o
end
section
variable{P:Program}{w:World}{H H':Hp}{h h':Heap}{a:Addr}{o:HO}
theorem ObjOk.lt(x:ObjOk P w H h a o):a<h.objs.size:=by
 cases o with
 |lst xs=>obtain⟨_,_,_,_,e⟩:=x;exact Heap.lt_size e
 |tup xs=>obtain⟨_,_,_,p⟩:=x;exact p.lt
 |dK kvs=>obtain⟨_,_,_,_,o,_,_,e,_⟩:=x;exact Heap.lt_size e
 |dT kvs=>obtain⟨_,_,_,_,o,_,_,e,_⟩:=x;exact Heap.lt_size e
 |set S n=>obtain⟨o,_,_,_,e,_⟩:=x;exact Heap.lt_size e
 |ins C dx fs=>obtain⟨_,_,_,e,_⟩:=x;exact Heap.lt_size e
 |own y=>obtain⟨_,e⟩:=x;exact Heap.lt_size e
 |xd fs=>obtain⟨_,⟨_,_,_,e,_⟩,_⟩:=x;exact Heap.lt_size e
 |rng lo hi=>obtain⟨_,_,_,e⟩:=x;exact Heap.lt_size e
 |frz ob u=>obtain⟨e,_⟩:=x;exact Heap.lt_size e
 |tbl ps=>exact Heap.lt_size (show h.get? a=some _ from x)
 |met f y=>exact Heap.lt_size (show h.get? a=some _ from x)
 |ext φ=>obtain⟨_,⟨_,e⟩,_⟩:=x;exact Heap.lt_size e
theorem Paired.mapP{α β:Type}{F G:α->β->Prop}:∀{l₁:List α}{l₂:List β},Paired F l₁ l₂->(∀a b,F a b->G a b)->Paired G l₁ l₂
 |_,_,.nil,_=> .nil
 |_,_,.cons r t,f=> .cons (f _ _ r) (Paired.mapP t f)
theorem ObjOk.stay(x:ObjOk P w H h a o)(k:∀b u,(b=a\/H b=some (.own a))->h.get? b=some u->h'.get? b=some u)
  (ho:∀b,H b=some (.own a)->H' b=some (.own a)) (ht:∀b xs,H b=some (.tup xs)->H' b=some (.tup xs)):ObjOk P w H' h' a o:=by
 induction o with
 |lst xs=>obtain⟨z,its,n,r,e⟩:=x;exact⟨z,its,n,r,k _ _ (.inl rfl) e⟩
 |tup xs=>obtain⟨z,its,r,ob,e,c⟩:=x;exact⟨z,its,r,ob,k _ _ (.inl rfl) e,c⟩
 |dK kvs=>obtain⟨z,y,vs,r,ob,es,ep,e,c⟩:=x;exact⟨z,y,vs,r,ob,es,ep,k _ _ (.inl rfl) e,c⟩
 |dT kvs=>
  obtain⟨z,y,xs,r,ob,es,ep,e,c⟩:=x
  exact⟨z,y,xs,Paired.mapP r fun p q z=>⟨z.1,ht _ _ z.2.1,z.2.2⟩,ob,es,ep,k _ _ (.inl rfl) e,c⟩
 |set S n=>obtain⟨ob,es,ep,t,e,c⟩:=x;exact⟨ob,es,ep,t,k _ _ (.inl rfl) e,c⟩
 |ins C dx fs=>
  obtain⟨d,z,ne,e,mA,⟨od,es,ep,e2,c⟩,r⟩:=x
  exact⟨ho _ d,z,ne,k _ _ (.inl rfl) e,mA,⟨od,es,ep,k _ _ (.inr d) e2,c⟩,r⟩
 |own y=>obtain⟨ob,e⟩:=x;exact⟨ob,k _ _ (.inl rfl) e⟩
 |xd fs=>obtain⟨mA,⟨od,es,ep,e,c⟩,r⟩:=x;exact⟨mA,⟨od,es,ep,k _ _ (.inl rfl) e,c⟩,r⟩
 |rng lo hi=>obtain⟨t,u,v,e⟩:=x;exact⟨t,u,v,k _ _ (.inl rfl) e⟩
 |frz ob u ih=>obtain⟨e,q⟩:=x;exact⟨k _ _ (.inl rfl) e,ih q⟩
 |tbl ps=>
  have e:h.get? a=some {cls:= .none,data:= .fields ps}:=x
  show h'.get? a=some {cls:= .none,data:= .fields ps}
  exact k a _ (.inl rfl) e
 |met f y=>
  have e:h.get? a=some (PySem.W.methodObj (.ref f) (.ref y)):=x
  show h'.get? a=some (PySem.W.methodObj (.ref f) (.ref y))
  exact k a _ (.inl rfl) e
 |ext φ=>obtain⟨p,⟨o,e⟩,st⟩:=x;exact⟨st _ _ p fun o q=>k _ _ (.inl rfl) q,⟨o,k _ _ (.inl rfl) e⟩,st⟩
theorem HOk.lt(x:HOk P w H h)(e:H a=some o):a<h.objs.size:=(x a o e).lt
theorem HOk.fresh(x:HOk P w H h)(e:h.objs.size<=a):H a=none:=by
 cases q:H a with
 |none=>rfl
 |some u=>exact absurd (Nat.lt_of_lt_of_le (x.lt q) e) (Nat.lt_irrefl _)
theorem HOk.kept(x:HOk P w H h)(k:∀b u,h.get? b=some u->h'.get? b=some u):HOk P w H h':=fun a o e=>
 (x a o e).stay (fun b u _ q=>k b u q) (fun _ q=>q) fun _ _ q=>q
theorem HOk.laid(x:HOk P w H h)(k:∀b u,h.get? b=some u->h'.get? b=some u) (hp:h.objs.size<=a) (new:ObjOk P w (upd H a o) h' a o):HOk P w (upd H a o) h':=fun b u e=>by
 have hn:=x.fresh hp
 by_cases hb:b=a
 ·subst hb;rw[Zf]at e;cases e;exact new
 ·rw[Zg hb]at e
  exact(x b u e).stay (fun c v _ q=>k c v q) (fun c q=>by rw[Zg (Zz q hn)];exact q) fun c xs q=>by rw[Zg (Zz q hn)];exact q
end
def Rd(H:Hp)(a:Addr)(u:HO):Prop:=H a=some u\/∃o,H a=some (.frz o u)
theorem Rd.ok{P:Program}{w:World}{H:Hp}{h:Heap}{a:Addr}{u:HO}(r:Rd H a u)(x:HOk P w H h):ObjOk P w H h a u:=by
 rcases r with r|⟨o,r⟩
 ·exact x a u r
 ·obtain⟨_,q⟩:=x a _ r
  exact q
def Mut:Option HO->Prop
 |some (.lst _)=>True
 |some (.dK _)=>True
 |some (.dT _)=>True
 |some (.set _ _)=>True
 |some (.ins _ _ _)=>True
 |some (.ext _)=>True
 |_=>False
section
variable{P:Program}{w:World}{H:Hp}{h h':Heap}{x e:Addr}{o':HO}
theorem HOk.write(ok:HOk P w H h)(mu:Mut (H x))(he:e=x\/H e=some (.own x))(k:∀b u,b≠e->h.get? b=some u->h'.get? b=some u) (heo:∃u,h'.get? e=some u)
  (new:ObjOk P w (upd H x o') h' x o'):HOk P w (upd H x o') h':=fun b u q=>by
 have nown:∀c y,H c=some (.own y)->c≠x:=fun c y r z=>by subst z;rw[r]at mu;exact mu
 have ntup:∀c xs,H c=some (.tup xs)->c≠x:=fun c xs r z=>by subst z;rw[r]at mu;exact mu
 by_cases hb:b=x
 ·subst hb;rw[Zf]at q;cases q;exact new
 ·rw[Zg hb]at q
  by_cases hbe:b=e
  ·have q':H b=some (.own x):=by
    rcases he with z|z
    ·exact absurd (hbe.trans z) hb
    ·rw[hbe];exact z
   rw[q]at q';cases q'
   obtain⟨v,hv⟩:=heo
   exact⟨v,by rw[hbe];exact hv⟩
  ·refine(ok b u q).stay (fun c v hc r=>k c v ?_ r) (fun c r=>by rw[Zg (nown c b r)];exact r) fun c xs r=>by rw[Zg (ntup c xs r)];exact r
   rcases hc with rfl|hc
   ·exact hbe
   ·rintro rfl
    rcases he with z|z
    ·exact nown c b hc z
    ·rw[hc]at z;cases z;exact hb rfl
end
structure Un(fs ex:List Addr)(H H':Hp)(h h':Heap):Prop where
 keep:∀b o,h.get? b=some o->H b=none->b ∉ fs->b ∉ ex->h'.get? b=some o
 slot:∀b o,h.get? b=some o->H b=none->b∈fs->b ∉ ex->∃sl,h'.get? b=some {o with slots:=sl}
 free:∀b o,h.get? b=some o->H b=none->b ∉ ex->H' b=none
 there:∀b o,h.get? b=some o->b ∉ ex->∃o',h'.get? b=some o'
 tups:∀b xs,H b=some (.tup xs)->H' b=some (.tup xs)
 frzs:∀b o u,H b=some (.frz o u)->H' b=some (.frz o u)
 tbls:∀b ps,H b=some (.tbl ps)->∃more,H' b=some (.tbl (ps++more))
section
variable{fs fs' ex ex':List Addr}{H H1 H2:Hp}{h h1 h2 h':Heap}{a x e:Addr}{o:HO}
theorem Un.any(u:Un fs ex H H1 h h1){b:Addr}{ob:Obj}(q:h.get? b=some ob)(n:H b=none)(hx:b ∉ ex):∃sl,h1.get? b=some {ob with slots:=sl}:=by
 by_cases hb:b∈fs
 ·exact u.slot b ob q n hb hx
 ·exact⟨ob.slots,u.keep b ob q n hb hx⟩
theorem Un.trans(a:Un fs ex H H1 h h1)(b:Un fs ex H1 H2 h1 h2):Un fs ex H H2 h h2 where
 keep:=fun c ob q n hc hx=>b.keep c ob (a.keep c ob q n hc hx) (a.free c ob q n hx) hc hx
 slot:=fun c ob q n hc hx=>by
  obtain⟨sl,e1⟩:=a.slot c ob q n hc hx
  obtain⟨sl',e2⟩:=b.slot c _ e1 (a.free c ob q n hx) hc hx
  exact⟨sl',e2⟩
 free:=fun c ob q n hx=>by
  obtain⟨o',e1⟩:=a.there c ob q hx
  exact b.free c o' e1 (a.free c ob q n hx) hx
 there:=fun c ob q hx=>by
  obtain⟨o',e1⟩:=a.there c ob q hx
  exact b.there c o' e1 hx
 tups:=fun c xs q=>b.tups c xs (a.tups c xs q)
 frzs:=fun c ob xs q=>b.frzs c ob xs (a.frzs c ob xs q)
 tbls:=fun c ps q=>by
  obtain⟨m1,e1⟩:=a.tbls c ps q
  obtain⟨m2,e2⟩:=b.tbls c _ e1
  exact⟨m1++m2,by rw[e2,Array.append_assoc]⟩
theorem Un.kept(k:∀b u,h.get? b=some u->h'.get? b=some u):Un fs ex H H h h':=
 ⟨fun b ob q _ _ _=>k b ob q,fun b ob q _ _ _=>⟨ob.slots,k b ob q⟩,fun _ _ _ n _=>n,fun b ob q _=>⟨ob,k b ob q⟩,fun _ _ q=>q,fun _ _ _ q=>q,fun _ ps q=>⟨#[],by rw[q];simp⟩⟩
theorem Un.refl:Un fs ex H H h h:=Un.kept fun _ _ q=>q
theorem Un.laid(k:∀b u,h.get? b=some u->h'.get? b=some u) (hp:h.objs.size<=a) (hn:H a=none):Un fs ex H (upd H a o) h h' where
 keep:=fun b u q _ _ _=>k b u q
 slot:=fun b u q _ _ _=>⟨u.slots,k b u q⟩
 free:=fun b u q n _=>by rw[Zg (Nat.ne_of_lt (Nat.lt_of_lt_of_le (Heap.lt_size q) hp))];exact n
 there:=fun b u q _=>⟨u,k b u q⟩
 tups:=fun b xs q=>by rw[Zg (Zz q hn)];exact q
 frzs:=fun b u xs q=>by rw[Zg (Zz q hn)];exact q
 tbls:=fun b ps q=>⟨#[],by rw[Zg (Zz q hn),q];simp⟩
theorem Un.write(mu:Mut (H x))(he:e=x\/H e=some (.own x))(k:∀b u,b≠e->h.get? b=some u->h'.get? b=some u) (heo:∃u,h'.get? e=some u):Un fs ex H (upd H x o) h h':=by
 have hx:∀b,H b=none->b≠x:=fun b n z=>by subst z;rw[n]at mu;exact mu
 have hb:∀b,H b=none->b≠e:=fun b n z=>by
  subst z
  rcases he with r|r
  ·exact hx b n r
  ·rw[n]at r;cases r
 have hm:∀b u,H b=some u->¬Mut (some u)->b≠x:=fun b u q nm z=>by subst z;rw[q]at mu;exact nm mu
 refine⟨fun b u q n _ _=>k b u (hb b n) q,fun b u q n _ _=>⟨u.slots,k b u (hb b n) q⟩,fun b u q n _=>by rw[Zg (hx b n)];exact n,fun b u q _=>?_,
  fun b xs q=>by rw[Zg (hm b _ q fun z=>z)];exact q,fun b u xs q=>by rw[Zg (hm b _ q fun z=>z)];exact q,fun b ps q=>⟨#[],by rw[Zg (hm b _ q fun z=>z),q];simp⟩⟩
 by_cases hbe:b=e
 ·subst hbe;exact heo
 ·exact⟨u,k b u hbe q⟩
theorem Un.mono(u:Un fs ex H H1 h h1)(hs:∀b∈fs,b∈fs') (hx:∀b∈ex,b∈ex'):Un fs' ex' H H1 h h1:=
 ⟨fun b ob q n hb he=>u.keep b ob q n (fun z=>hb (hs b z)) fun z=>he (hx b z),fun _ _ q n _ he=>u.any q n fun z=>he (hx _ z),fun b ob q n he=>u.free b ob q n fun z=>he (hx b z),fun b ob q he=>u.there b ob q fun z=>he (hx b z),u.tups,u.frzs,u.tbls⟩
end
def trk(h:Heap)(H:Hp):List Addr:=(List.range h.objs.size).filter fun a=>(H a).isSome
def Zb6(h:Heap)(H:Hp):Heap:=PySem.W.hideAll h (trk h H)
theorem ZeO(h:Heap)(H:Hp):(Zb6 h H).objs.size=h.objs.size:=PySem.W.hideAll_size _ _
theorem Zga{h:Heap}{H:Hp}{b:Addr}{o:Obj}(e:h.get? b=some o)(n:H b=none):(Zb6 h H).get? b=some o:=
 PySem.W.hideAll_get _ e fun hm=>by
  have q:(H b).isSome=true:=(List.mem_filter.mp hm).2
  rw[n]at q;simp at q
theorem ZgM{h:Heap}{H:Hp}{b:Addr}{o:Obj}(e:(Zb6 h H).get? b=some o):h.get? b=some o/\H b=none:=by
 have e':h.get? b=some o:=PySem.W.of_hideAll (trk h H) e
 refine⟨e',?_⟩
 cases q:H b with
 |none=>rfl
 |some x=>
  have hm:b∈trk h H:=List.mem_filter.mpr ⟨List.mem_range.mpr (Heap.lt_size e'),by simp[q]⟩
  have z:(Zb6 h H).get? b=none:=PySem.W.hideAll_none (trk h H) hm
  rw[z]at e;cases e
def Zhz(g h:Heap)(L:Addr):List (Addr×Obj):=(List.range h.objs.size).filterMap fun a=>if a=L\/(g.get? a).isSome=true then none else(h.get? a).map fun o=>(a,o)
def rest(g h:Heap)(L d:Addr):List (Addr×Obj):=(Zhz g h L).filter fun p=>decide (p.1≠d)
structure Mod(K:PySem.W.Frag)(mg:Str->Option Value)(base:Heap):Prop where
 kin:K.In base
 glob:base.Ns mainGlobals mg
 blt:∃mb,base.Ns builtinsNs mb/\∀x:Str,x≠"__name__"->mb x=bootBuiltins x
 nolimit:base.NoLimit
structure Cx where
 prog:Program
 w:World
 K:PySem.W.Frag
 mg:Str->Option Value
 base:Heap
 A:Around
 N:List Str
 s₀:Shared
 H₀:Hp
 env:Env
 outer:List Env
 stack:List Env
 ex:List Addr
 fn:Str->Bool
 calm:Bool
 pn:List (Addr×Obj)
 xe:Value->Shared->Prop
def frs(l:List Env):List Addr:=l.filterMap (·.frame)
abbrev Cx.fs(X:Cx):List Addr:=frs X.outer
def Vis(sc:Scope)(x:Str):Prop:=sc.names.lookup x=some .local\/sc.names.lookup x=some .cell\/sc.names.lookup x=some .free
def Loc(sc:Scope)(x:Str):Prop:=sc.names.lookup x=some .local\/sc.names.lookup x=some .cell
def Look(env:Env)(h:Heap)(m:Str->Option Value)(x:Str)(u:Value):Prop:=
 (env.kindOf x=some .local/\m x=some u)\/((env.kindOf x=some .cell\/env.kindOf x=some .free)/\∃c,env.cells.lookup x=some c/\h.IsCell c (some u))
structure Cx.Ok(X:Cx):Prop where
 mod:Mod X.K X.mg X.base
 kind:X.env.scope.kind= .function
 glob:X.env.globals=mainGlobals
 blt:X.env.builtins=builtinsNs
 above:X.s₀.heap.objs.size<=X.env.locals
 inj:∀x y c,X.env.cells.lookup x=some c->X.env.cells.lookup y=some c->x=y
 has:∀x,(X.env.kindOf x=some .cell\/X.env.kindOf x=some .free)->∃c,X.env.cells.lookup x=some c
 cab:∀x c,X.fn x=true->X.env.cells.lookup x=some c->X.s₀.heap.objs.size<=c
 hd:X.calm=true->X.A.handled=none
 frames:X.A.frames=some X.stack
 stk:X.stack=X.outer\/(X.stack=X.env::X.outer/\X.env.frame=some X.env.locals)
 exf:∀b∈X.ex,b≠X.env.locals/\∀x c,X.env.cells.lookup x=some c->c≠b
 bs:∀b o,X.base.get? b=some o->X.s₀.heap.get? b=some o/\X.H₀ b=none
 bsz:X.base.objs.size<=X.s₀.heap.objs.size
 noex:∀b o,X.base.get? b=some o->b ∉ X.ex
 exfs:∀b∈X.ex,b ∉ X.fs
 funs:X.s₀.heap.FunFrames X.base X.outer
 frf:∀b∈X.fs,X.H₀ b=none
structure Inv(X:Cx)(pins:List (Addr×Obj))(σ:List (Option V))(H:Hp)(s:Shared):Prop where
 ok:X.Ok
 os:s.os=X.s₀.os
 bare:AllBare s.gens
 base:Un X.fs X.ex X.H₀ H X.s₀.heap s.heap
 loc:∃m,s.heap.Ns X.env.locals m/\∀(i:Nat)(x:Str)(v:V),X.N[i]?=some x->σ[i]?=some (some v)->Vis X.env.scope x->∃u,RelV v u/\Look X.env s.heap m x u
 cell:∀x c,X.env.cells.lookup x=some c->∃v,s.heap.IsCell c v
 free:H X.env.locals=none
 freeC:∀x c,X.env.cells.lookup x=some c->H c=none
 pin:∀p∈X.pn++pins,s.heap.get? p.1=some p.2/\H p.1=none/\p.1≠X.env.locals/\p.1 ∉ X.fs/\∀v,p.2.data≠.cell v
 hok:HOk X.prog X.w H s.heap
 len:σ.length=X.N.length
section
variable{X:Cx}{pins:List (Addr×Obj)}{σ:List (Option V)}{H H':Hp}{s:Shared}{h':Heap}
theorem Cx.Ok.nofr(ok:X.Ok){b:Addr}{o:Obj}(e:X.base.get? b=some o):b ∉ X.fs:=fun hb=>by
 have:=(ok.funs.mem hb).1
 rw[e]at this;cases this
theorem Inv.bs(I:Inv X pins σ H s):∀b o,X.base.get? b=some o->s.heap.get? b=some o/\H b=none:=fun b o e=>
 ⟨I.base.keep b o (I.ok.bs b o e).1 (I.ok.bs b o e).2 (I.ok.nofr e) (I.ok.noex b o e),I.base.free b o (I.ok.bs b o e).1 (I.ok.bs b o e).2 (I.ok.noex b o e)⟩
theorem Inv.bk(I:Inv X pins σ H s):∀b o,X.base.get? b=some o->s.heap.get? b=some o:=fun b o e=>(I.bs b o e).1
theorem Inv.mod(I:Inv X pins σ H s):Mod X.K X.mg X.base:=I.ok.mod
theorem Inv.kIn(I:Inv X pins σ H s):X.K.In s.heap:=I.ok.mod.kin.keeps I.bk
theorem Inv.nolimit(I:Inv X pins σ H s):s.heap.NoLimit:=I.ok.mod.nolimit.keeps I.bk
theorem Inv.fr(I:Inv X pins σ H s):∃m,Fr X.base X.env.locals s.heap m:=
 let⟨m,hn,_⟩:=I.loc
 ⟨m,hn,I.bk,Nat.le_trans I.ok.bsz I.ok.above⟩
theorem Inv.lt(I:Inv X pins σ H s):X.env.locals<s.heap.objs.size:=let⟨_,hn,_⟩:=I.loc;hn.lt
theorem Inv.sz(I:Inv X pins σ H s):X.s₀.heap.objs.size<=s.heap.objs.size:=Nat.le_trans I.ok.above (Nat.le_of_lt I.lt)
theorem Inv.nofs(I:Inv X pins σ H s){a:Addr}(h:s.heap.objs.size<=a):a ∉ X.fs:=fun hb=>by
 obtain⟨_,o,ho,_⟩:=I.ok.funs.mem hb
 exact absurd (Nat.lt_of_lt_of_le (Heap.lt_size ho) (Nat.le_trans I.sz h)) (Nat.lt_irrefl _)
theorem Inv.cne(I:Inv X pins σ H s):∀x c,X.env.cells.lookup x=some c->c≠X.env.locals:=fun x c e z=>by
 obtain⟨v,o,ho,hd⟩:=I.cell x c e
 obtain⟨m,⟨o',es,ep,ho',hd',_⟩,_⟩:=I.loc
 rw[z,ho']at ho;cases ho;rw[hd']at hd;cases hd
theorem Inv.funs(I:Inv X pins σ H s):s.heap.FunFrames X.base X.outer:=by
 have all:∀(l:List Env),(∀b∈frs l,b∈X.fs)->X.s₀.heap.FunFrames X.base l->s.heap.FunFrames X.base l:=by
  intro l
  induction l with
  |nil=>intro _ _;trivial
  |cons env r ih=>
   intro hs hl
   obtain⟨hk,⟨L,o,hf,hn,ho,hd⟩,hr⟩:=hl
   have hL:L∈X.fs:=hs L (by unfold frs;rw[List.filterMap_cons,hf];exact List.mem_cons_self)
   obtain⟨sl,e⟩:=I.base.slot L o ho (I.ok.frf L hL) hL fun z=>I.ok.exfs L z hL
   exact⟨hk,⟨L,_,hf,hn,e,hd⟩,ih (fun b hb=>hs b (by unfold frs;rw[List.filterMap_cons,hf];exact List.mem_cons_of_mem _ hb)) hr⟩
 exact all X.outer (fun _ hb=>hb) I.ok.funs
theorem Inv.stack(I:Inv X pins σ H s):s.heap.FunFrames X.base X.stack:=by
 rcases I.ok.stk with e|⟨e,hf⟩
 ·rw[e];exact I.funs
 ·rw[e]
  obtain⟨m,hn,_⟩:=I.loc
  refine .cons (by rw[I.ok.kind];decide) hf hn ?_ I.funs
  exact Heap.get?_none_of_le (Nat.le_trans I.ok.bsz I.ok.above)
theorem Inv.stkSub(I:Inv X pins σ H s):∀b∈frs X.stack,b∈X.env.locals::X.fs:=fun b hb=>by
 rcases I.ok.stk with e|⟨e,hf⟩
 ·rw[e]at hb;exact List.mem_cons_of_mem _ hb
 ·rw[e]at hb
  unfold frs at hb
  rw[List.filterMap_cons,hf]at hb
  exact hb
theorem Inv.stkFree(I:Inv X pins σ H s):∀b∈frs X.stack,H b=none:=fun b hb=>by
 rcases List.mem_cons.mp (I.stkSub b hb)with e|hb
 ·rw[e];exact I.free
 ·obtain⟨_,o,ho,_⟩:=I.ok.funs.mem hb
  exact I.base.free b o ho (I.ok.frf b hb) fun z=>I.ok.exfs b z hb
theorem Inv.step{g':Array GenState}{t':Nat}{d':Drawn}{ch:List Addr}(I:Inv X pins σ H s)
  (hch:∀b∈ch,(b∈X.ex\/X.s₀.heap.objs.size<=b)/\b≠X.env.locals/\(∀x c,X.env.cells.lookup x=some c->c≠b)/\∀p∈X.pn++pins,p.1≠b)
  (keep:∀b o,b≠X.env.locals->b ∉ X.fs->b ∉ ch->s.heap.get? b=some o->H b=none->h'.get? b=some o)
  (slot:∀b o,b≠X.env.locals->b∈X.fs->b ∉ ch->s.heap.get? b=some o->H b=none->∃sl,h'.get? b=some {o with slots:=sl}) (free:∀b o,b ∉ ch->s.heap.get? b=some o->H b=none->H' b=none)
  (there:∀b o,b ∉ ch->s.heap.get? b=some o->∃o',h'.get? b=some o')
  (tups:∀b xs,H b=some (.tup xs)->H' b=some (.tup xs)) (frzs:∀b o u,H b=some (.frz o u)->H' b=some (.frz o u)) (tbls:∀b ps,H b=some (.tbl ps)->∃more,H' b=some (.tbl (ps++more)))
  (ns:∀m,s.heap.Ns X.env.locals m->h'.Ns X.env.locals m) (hok:HOk X.prog X.w H' h') (hg:AllBare g'):
  Inv X pins σ H' {s with heap:=h',gens:=g',drawn:=d',toks:=t'}:=by
 have neL:∀b o,X.s₀.heap.get? b=some o->b≠X.env.locals:=fun b o e=>Nat.ne_of_lt (Nat.lt_of_lt_of_le (Heap.lt_size e) I.ok.above)
 have neC:∀b o,X.s₀.heap.get? b=some o->b ∉ X.ex->b ∉ ch:=fun b o e hx hb=>by
  rcases(hch b hb).1 with z|z
  ·exact hx z
  ·exact absurd (Nat.lt_of_lt_of_le (Heap.lt_size e) z) (Nat.lt_irrefl _)
 have cellK:∀x c,X.env.cells.lookup x=some c->∀v,s.heap.IsCell c v->h'.IsCell c v:=fun x c e v⟨o,ho,hd⟩=>by
  have nch:c ∉ ch:=fun z=>(hch c z).2.2.1 x c e rfl
  by_cases hc:c∈X.fs
  ·obtain⟨sl,q⟩:=slot c o (I.cne x c e) hc nch ho (I.freeC x c e)
   exact⟨_,q,hd⟩
  ·exact⟨o,keep c o (I.cne x c e) hc nch ho (I.freeC x c e),hd⟩
 refine⟨I.ok,I.os,hg,⟨fun b o e n hb hx=>?_,fun b o e n hb hx=>?_,fun b o e n hx=>?_,fun b o e hx=>?_,fun b xs e=>tups b xs (I.base.tups b xs e),fun b o xs e=>frzs b o xs (I.base.frzs b o xs e),fun b ps e=>?_⟩,?_,fun x c e=>?_,?_,fun x c e=>?_,fun p hp=>?_,hok,I.len⟩
 ·exact keep b o (neL b o e) hb (neC b o e hx) (I.base.keep b o e n hb hx) (I.base.free b o e n hx)
 ·obtain⟨sl,e1⟩:=I.base.slot b o e n hb hx
  obtain⟨sl',e2⟩:=slot b _ (neL b o e) hb (neC b o e hx) e1 (I.base.free b o e n hx)
  exact⟨sl',e2⟩
 ·obtain⟨o',e1⟩:=I.base.there b o e hx
  exact free b o' (neC b o e hx) e1 (I.base.free b o e n hx)
 ·obtain⟨o',e1⟩:=I.base.there b o e hx
  exact there b o' (neC b o e hx) e1
 ·obtain⟨m1,e1⟩:=I.base.tbls b ps e
  obtain⟨m2,e2⟩:=tbls b _ e1
  exact⟨m1++m2,by rw[e2,Array.append_assoc]⟩
 ·obtain⟨m,hn,hl⟩:=I.loc
  refine⟨m,ns m hn,fun i x v e1 e2 e3=>?_⟩
  obtain⟨u,r,l⟩:=hl i x v e1 e2 e3
  refine⟨u,r,?_⟩
  rcases l with l|⟨k,c,e,z⟩
  ·exact .inl l
  ·exact .inr ⟨k,c,e,cellK x c e _ z⟩
 ·obtain⟨v,z⟩:=I.cell x c e
  exact⟨v,cellK x c e v z⟩
 ·obtain⟨m,⟨o,_,_,ho,_⟩,_⟩:=I.loc
  exact free _ o (fun z=>(hch _ z).2.1 rfl) ho I.free
 ·obtain⟨v,o,ho,hd⟩:=I.cell x c e
  exact free c o (fun z=>(hch c z).2.2.1 x c e rfl) ho (I.freeC x c e)
 ·obtain⟨e,n,ne,nf,d⟩:=I.pin p hp
  have nch:p.1 ∉ ch:=fun z=>(hch p.1 z).2.2.2 p hp rfl
  exact⟨keep p.1 p.2 ne nf nch e n,free p.1 p.2 nch e n,ne,nf,d⟩
theorem Inv.un{t':Nat}(I:Inv X pins σ H s)(u:Un X.fs [] H H' s.heap h')(hok:HOk X.prog X.w H' h'):Inv X pins σ H' {s with heap:=h',toks:=t'}:=by
 obtain⟨m,⟨o,es,ep,ho,r⟩,_⟩:=id I.loc
 obtain⟨sl,hL⟩:=u.any ho I.free (by simp)
 exact I.step (g':=s.gens) (d':=s.drawn) (ch:=[]) (fun _ z=>nomatch z) (fun b o _ hb _ e n=>u.keep b o e n hb (by simp)) (fun b o _ hb _ e n=>u.slot b o e n hb (by simp)) (fun b o _ e n=>u.free b o e n (by simp)) (fun b o _ e=>u.there b o e (by simp)) u.tups u.frzs u.tbls (fun m' hm=>by
  obtain⟨o',es',ep',ho',r'⟩:=hm
  rw[ho]at ho';cases ho'
  exact⟨_,es',ep',hL,r'⟩) hok I.bare
theorem Inv.call{g':Array GenState}{t':Nat}{d':Drawn}{ch:List Addr}(I:Inv X pins σ H s)(u:Un (frs X.stack) ch H H' s.heap h')(hok:HOk X.prog X.w H' h')(hg:AllBare g')
  (hch:∀b∈ch,(b∈X.ex\/X.s₀.heap.objs.size<=b)/\b≠X.env.locals/\(∀x c,X.env.cells.lookup x=some c->c≠b)/\∀p∈X.pn++pins,p.1≠b):
  Inv X pins σ H' {s with heap:=h',gens:=g',drawn:=d',toks:=t'}:=by
 obtain⟨m,⟨o,es,ep,ho,r⟩,_⟩:=id I.loc
 obtain⟨sl,hL⟩:=u.any ho I.free fun z=>(hch _ z).2.1 rfl
 exact I.step (ch:=ch) hch (fun b o hL hb hc e n=>u.keep b o e n (fun z=>(List.mem_cons.mp (I.stkSub b z)).elim hL hb) hc) (fun b o _ _ hc e n=>u.any e n hc) (fun b o hc e n=>u.free b o e n hc) (fun b o hc e=>u.there b o e hc) u.tups u.frzs u.tbls (fun m' hm=>by
  obtain⟨o',es',ep',ho',r'⟩:=hm
  rw[ho]at ho';cases ho'
  exact⟨_,es',ep',hL,r'⟩) hok hg
theorem Inv.turned{t':Nat}{it:Addr}(I:Inv X pins σ H s)(k:∀b o,b≠it->s.heap.get? b=some o->h'.get? b=some o) (hn:H it=none) (hL:it≠X.env.locals)
  (h1:it∈X.ex\/X.s₀.heap.objs.size<=it) (h2:∀x c,X.env.cells.lookup x=some c->c≠it) (h3:∀p∈X.pn++pins,p.1≠it):Inv X pins σ H {s with heap:=h',toks:=t'}:=by
 have nit:∀b u,H b=some u->b≠it:=fun b u e z=>by rw[z,hn]at e;cases e
 refine I.step (g':=s.gens) (d':=s.drawn) (ch:=[it]) (fun b hb=>?_) (fun b o _ _ hc e _=>k b o (fun z=>hc (by simp[z])) e) (fun b o _ _ hc e _=>⟨o.slots,k b o (fun z=>hc (by simp[z])) e⟩) (fun _ _ _ _ n=>n)
  (fun b o hc e=>⟨o,k b o (fun z=>hc (by simp[z])) e⟩) (fun _ _ e=>e) (fun _ _ _ e=>e) (fun b ps e=>⟨#[],by rw[e];simp⟩) (fun m hm=>?_) (fun b u e=>?_) I.bare
 ·have e:b=it:=by simpa using hb
  subst e
  exact⟨h1,hL,h2,h3⟩
 ·obtain⟨o,es,ep,ho,r⟩:=hm
  exact⟨o,es,ep,k _ o (Ne.symm hL) ho,r⟩
 ·refine(I.hok b u e).stay (fun c v hc q=>k c v ?_ q) (fun _ q=>q) fun _ _ q=>q
  rcases hc with z|z
  ·rw[z];exact nit b u e
  ·exact nit c _ z
theorem Inv.tok(I:Inv X pins σ H s)(t:Nat):Inv X pins σ H {s with toks:=t}:=I.un (h':=s.heap) (t':=t) Un.refl I.hok
theorem Inv.kept{t':Nat}(I:Inv X pins σ H s)(k:∀b u,s.heap.get? b=some u->h'.get? b=some u):Inv X pins σ H {s with heap:=h',toks:=t'}:=I.un (Un.kept k) (I.hok.kept k)
theorem Inv.laid{a:Addr}{o:HO}{t':Nat}(I:Inv X pins σ H s)(k:∀b u,s.heap.get? b=some u->h'.get? b=some u) (hp:s.heap.objs.size<=a) (new:ObjOk X.prog X.w (upd H a o) h' a o):
  Inv X pins σ (upd H a o) {s with heap:=h',toks:=t'}:=I.un (Un.laid k hp (I.hok.fresh hp)) (I.hok.laid k hp new)
theorem Inv.write{x e:Addr}{o:HO}{t':Nat}(I:Inv X pins σ H s)(mu:Mut (H x))(he:e=x\/H e=some (.own x))(k:∀b u,b≠e->s.heap.get? b=some u->h'.get? b=some u) (heo:∃u,h'.get? e=some u)
  (new:ObjOk X.prog X.w (upd H x o) h' x o):Inv X pins σ (upd H x o) {s with heap:=h',toks:=t'}:=I.un (Un.write mu he k heo) (I.hok.write mu he k heo new)
theorem Inv.pins_of{pins':List (Addr×Obj)}(I:Inv X pins σ H s)(h:∀p∈pins',s.heap.get? p.1=some p.2/\H p.1=none/\p.1≠X.env.locals/\p.1 ∉ X.fs/\∀v,p.2.data≠.cell v):Inv X pins' σ H s:=
 ⟨I.ok,I.os,I.bare,I.base,I.loc,I.cell,I.free,I.freeC,fun p hp=>(List.mem_append.mp hp).elim (fun z=>I.pin p (List.mem_append_left _ z)) (h p),I.hok,I.len⟩
theorem Zbf{N:List Str}(hN:N.Nodup){i j:Nat}{x:Str}(a:N[i]?=some x)(b:N[j]?=some x):i=j:=by
 obtain⟨h1,e1⟩:=List.getElem?_eq_some_iff.mp a
 obtain⟨h2,e2⟩:=List.getElem?_eq_some_iff.mp b
 exact(List.getElem_inj hN).mp (e1.trans e2.symm)
theorem Ze4{M:Model}{A:Around}{E:Value->Shared->Prop}{i:Nat}{x:Str}{v:V}{u:Value}{Q:Unit->Shared->Prop}(I:Inv X pins σ H s)(hN:X.N.Nodup)(hi:X.N[i]?=some x)(hx:Loc X.env.scope x)(r:RelV v u)
  (h:∀s',Inv X pins (σ.set i (some v)) H s'->(∃a,Heap.SameBut a s.heap s'.heap/\(a=X.env.locals\/X.env.cells.lookup x=some a))->Q () s') (hf:X.fn x=true\/X.env.scope.names.lookup x=some .local:=by first|exact .inl rfl|exact .inr rfl|assumption):wpAny M A (storeName X.env x u) Q E s:=by
 obtain⟨m,hn,hl⟩:=id I.loc
 have hcls:(X.env.scope.kind== .class||(X.env.scope.kind== .module&&X.env.locals !=X.env.globals))=false:=by rw[I.ok.kind];rfl
 have hiσ:i<σ.length:=by rw[I.len];exact(List.getElem?_eq_some_iff.mp hi).1
 have cne:=I.cne
 have tracked:∀{a:Addr}{h':Heap},(∃o,s.heap.get? a=some o/\H a=none)->Heap.SameBut a s.heap h'->HOk X.prog X.w H h':=fun{a h'} ha hs b ob e=>by
  obtain⟨_,_,hfree⟩:=ha
  refine(I.hok b ob e).stay (fun c w' hc q=>(hs.2 c ?_).trans q) (fun _ q=>q) fun _ _ q=>q
  rintro rfl
  rcases hc with rfl|hc
  ·rw[hfree]at e;cases e
  ·rw[hfree]at hc;cases hc
 rcases hx with hk|hk
 ·refine wpAny_storeName_local hk hn (fun h' hn' hs=>?_) hcls
  obtain⟨oL,_,_,hoL,_⟩:=id hn
  refine h _ ⟨I.ok,I.os,I.bare,⟨fun b o e n hb hx=>?_,fun b o e n hb hx=>?_,I.base.free,fun b o e hx=>?_,I.base.tups,I.base.frzs,I.base.tbls⟩,⟨_,hn',fun j y v' e1 e2 e3=>?_⟩,fun y c e=>?_,I.free,I.freeC,fun p hp=>?_,tracked ⟨oL,hoL,I.free⟩ hs,by simpa using I.len⟩ ⟨_,hs,.inl rfl⟩
  ·exact(hs.2 b (Nat.ne_of_lt (Nat.lt_of_lt_of_le (Heap.lt_size e) I.ok.above))).trans (I.base.keep b o e n hb hx)
  ·obtain⟨sl,e1⟩:=I.base.slot b o e n hb hx
   exact⟨sl,(hs.2 b (Nat.ne_of_lt (Nat.lt_of_lt_of_le (Heap.lt_size e) I.ok.above))).trans e1⟩
  ·obtain⟨o',e1⟩:=I.base.there b o e hx
   exact⟨o',(hs.2 b (Nat.ne_of_lt (Nat.lt_of_lt_of_le (Heap.lt_size e) I.ok.above))).trans e1⟩
  ·by_cases hj:j=i
   ·subst hj
    rw[hi]at e1;cases e1
    rw[List.getElem?_set_self hiσ]at e2
    cases e2
    exact⟨u,r,.inl ⟨hk,by simp⟩⟩
   ·rw[List.getElem?_set_ne (Ne.symm hj)]at e2
    obtain⟨u',r',q⟩:=hl j y v' e1 e2 e3
    refine⟨u',r',?_⟩
    rcases q with⟨k,e⟩|⟨k,c,e,z⟩
    ·refine .inl ⟨k,?_⟩
     have:y≠x:=fun e=>hj (Zbf hN e1 (e▸hi))
     simp[this,e]
    ·exact .inr ⟨k,c,e,z.sameBut hs (cne y c e)⟩
  ·obtain⟨w',z⟩:=I.cell y c e
   exact⟨w',z.sameBut hs (cne y c e)⟩
  ·obtain⟨e,n,ne,nf,d⟩:=I.pin p hp
   exact⟨(hs.2 p.1 ne).trans e,n,ne,nf,d⟩
 ·have hfn:X.fn x=true:=by
   rcases hf with z|z
   ·exact z
   ·rw[z]at hk;cases hk
  obtain⟨c,hc⟩:=I.ok.has x (.inl hk)
  obtain⟨w',z⟩:=I.cell x c hc
  refine wpAny_storeName_cell I.ok.kind hk hc z (fun h' hc' hs=>?_)
  obtain⟨oc,hoc,hocd⟩:=id z
  refine h {s with heap:=h'} ⟨I.ok,I.os,I.bare,⟨fun b o e n hb hx=>?_,fun b o e n hb hx=>?_,I.base.free,fun b o e hx=>?_,I.base.tups,I.base.frzs,I.base.tbls⟩,⟨m,hn.sameBut hs (Ne.symm (cne x c hc)),fun j y v' e1 e2 e3=>?_⟩,fun y c' e=>?_,I.free,I.freeC,fun p hp=>?_,tracked ⟨oc,hoc,I.freeC x c hc⟩ hs,by simpa using I.len⟩ ⟨c,hs,.inr hc⟩
  ·exact(hs.2 b (Nat.ne_of_lt (Nat.lt_of_lt_of_le (Heap.lt_size e) (I.ok.cab x c hfn hc)))).trans (I.base.keep b o e n hb hx)
  ·obtain⟨sl,e1⟩:=I.base.slot b o e n hb hx
   exact⟨sl,(hs.2 b (Nat.ne_of_lt (Nat.lt_of_lt_of_le (Heap.lt_size e) (I.ok.cab x c hfn hc)))).trans e1⟩
  ·obtain⟨o',e1⟩:=I.base.there b o e hx
   exact⟨o',(hs.2 b (Nat.ne_of_lt (Nat.lt_of_lt_of_le (Heap.lt_size e) (I.ok.cab x c hfn hc)))).trans e1⟩
  ·by_cases hj:j=i
   ·subst hj
    rw[hi]at e1;cases e1
    rw[List.getElem?_set_self hiσ]at e2
    cases e2
    exact⟨u,r,.inr ⟨.inl hk,c,hc,hc'⟩⟩
   ·rw[List.getElem?_set_ne (Ne.symm hj)]at e2
    obtain⟨u',r',q⟩:=hl j y v' e1 e2 e3
    refine⟨u',r',?_⟩
    rcases q with q|⟨k,c',e,z'⟩
    ·exact .inl q
    ·refine .inr ⟨k,c',e,z'.sameBut hs ?_⟩
     rintro rfl
     exact hj (Zbf hN e1 (I.ok.inj _ _ _ e hc▸hi))
  ·by_cases hcc:c'=c
   ·subst hcc;exact⟨_,hc'⟩
   ·obtain⟨w2,z2⟩:=I.cell y c' e
    exact⟨w2,z2.sameBut hs hcc⟩
  ·obtain⟨e,n,ne,nf,d⟩:=I.pin p hp
   refine⟨(hs.2 p.1 ?_).trans e,n,ne,nf,d⟩
   intro q
   rw[q,hoc]at e
   have q':oc=p.2:=Option.some.inj e
   exact d w' (by rw[<-q'];exact hocd)
theorem JS{M:Model}{A:Around}{E:Value->Shared->Prop}{i:Nat}{x:Str}{v:V}{u:Value}{Q:Unit->Shared->Prop}(I:Inv X pins σ H s)(hN:X.N.Nodup)(hi:X.N[i]?=some x)(hx:Loc X.env.scope x)(r:RelV v u)
  (h:∀s',Inv X pins (σ.set i (some v)) H s'->Q () s') (hf:X.fn x=true\/X.env.scope.names.lookup x=some .local:=by first|exact .inl rfl|exact .inr rfl|assumption):wpAny M A (storeName X.env x u) Q E s:=
 Ze4 I hN hi hx r (fun s' I' _=>h s' I') hf
theorem Inv.call'{s':Shared}{ch:List Addr}(I:Inv X pins σ H s)(ho:s'.os=s.os)(u:Un (frs X.stack) ch H H' s.heap s'.heap)(hok:HOk X.prog X.w H' s'.heap)(hg:AllBare s'.gens)
  (hch:∀b∈ch,(b∈X.ex\/X.s₀.heap.objs.size<=b)/\b≠X.env.locals/\(∀x c,X.env.cells.lookup x=some c->c≠b)/\∀p∈X.pn++pins,p.1≠b):Inv X pins σ H' s':=by
 obtain⟨h',g',d',t',o'⟩:=s'
 have e:o'=s.os:=ho
 subst e
 exact I.call (g':=g') (t':=t') (d':=d') u hok hg hch
end
abbrev XK:=Value->Option Addr->Hp->Prop
abbrev St:=List (Option V)
abbrev VK:=V->Hp->Prop
abbrev TE:=St->Hp->VK->Prop
abbrev TT:=St->Hp->(Bool->Hp->Prop)->Prop
abbrev TA:=St->Hp->(List V->Hp->Prop)->Prop
structure Ends where
 nx:St->Hp->Prop
 rt:VK
 bk:St->Hp->Prop:=fun _ _=>False
 ct:St->Hp->Prop:=fun _ _=>False
abbrev TS:=Ends->St->Hp->Prop
def EP(X:Cx)(pins:List (Addr×Obj))(σ:St)(Q:VK)(u:Value)(s':Shared):Prop:=∃v H',Inv X pins σ H' s'/\RelV v u/\Q v H'
def TP(X:Cx)(pins:List (Addr×Obj))(σ:St)(Q:Bool->Hp->Prop)(b:Bool)(s':Shared):Prop:=∃H',Inv X pins σ H' s'/\Q b H'
def AP(X:Cx)(pins:List (Addr×Obj))(σ:St)(Q:List V->Hp->Prop)(us:List Value)(s':Shared):Prop:=∃vs H',Inv X pins σ H' s'/\Vals vs us/\Q vs H'
def SP(X:Cx)(pins:List (Addr×Obj))(D:Ends)(f:Flow)(s':Shared):Prop:=
 match f with
 | .next=>∃σ' H',Inv X pins σ' H' s'/\D.nx σ' H'
 | .brk=>∃σ' H',Inv X pins σ' H' s'/\D.bk σ' H'
 | .cont=>∃σ' H',Inv X pins σ' H' s'/\D.ct σ' H'
 | .ret u=>∃v σ' H',Inv X pins σ' H' s'/\RelV v u/\D.rt v H'
def PE(X:Cx)(e:Expr)(t:TE):Prop:=
 ∀(pins:List (Addr×Obj))(s:Shared)(σ:St)(H:Hp)(Q:VK),Inv X pins σ H s->t σ H Q->wpAny (model X.prog X.w) X.A (eval e X.env) (EP X pins σ Q) X.xe s
def PT(X:Cx)(e:Expr)(t:TT):Prop:=
 ∀(pins:List (Addr×Obj))(s:Shared)(σ:St)(H:Hp)(Q:Bool->Hp->Prop),Inv X pins σ H s->t σ H Q->wpAny (model X.prog X.w) X.A (isTrue e X.env (eval e X.env)) (TP X pins σ Q) X.xe s
def PW(X:Cx)(e:Expr)(t:TT):Prop:=
 ∀(whole:Sem Value)(pins:List (Addr×Obj))(s:Shared)(σ:St)(H:Hp)(Q:Bool->Hp->Prop),Inv X pins σ H s->t σ H Q->wpAny (model X.prog X.w) X.A (isTrue e X.env whole) (TP X pins σ Q) X.xe s
theorem PW.pt{X:Cx}{e:Expr}{t:TT}(h:PW X e t):PT X e t:=h _
def PA(X:Cx)(es:List Expr)(t:TA):Prop:=
 ∀(pos:Pos)(pins:List (Addr×Obj))(s:Shared)(σ:St)(H:Hp)(Q:List V->Hp->Prop),Inv X pins σ H s->t σ H Q->wpAny (model X.prog X.w) X.A (spliced (backTo pos (starEach es X.env))) (AP X pins σ Q) X.xe s
def PS(X:Cx)(st:Stmt)(t:TS):Prop:=
 ∀(pins:List (Addr×Obj))(s:Shared)(σ:St)(H:Hp)(D:Ends),Inv X pins σ H s->t D σ H->wpAny (model X.prog X.w) X.A (exec st X.env) (SP X pins D) X.xe s
def PSs(X:Cx)(st:List Stmt)(t:TS):Prop:=
 ∀(pins:List (Addr×Obj))(s:Shared)(σ:St)(H:Hp)(D:Ends),Inv X pins σ H s->t D σ H->wpAny (model X.prog X.w) X.A (execs st X.env) (SP X pins D) X.xe s
theorem thn{α:Type}{t:Sem α}{Q Q':α->Shared->Prop}{M:Model}{A:Around}{E:Value->Shared->Prop}{s:Shared}(h:wpAny M A t Q E s)(hQ:∀a s,Q a s->Q' a s):wpAny M A t Q' E s:=wpAny_mono h hQ fun _ _ x=>x
section
variable{X:Cx}
theorem bin{a b:Expr}{ta tb:TE}(ha:PE X a ta)(hb:PE X b tb){pins:List (Addr×Obj)}{s:Shared}{σ:St}{H:Hp}{R:V->V->Hp->Prop}(I:Inv X pins σ H s)(h:ta σ H fun x H1=>tb σ H1 fun y H2=>R x y H2)
  {α:Type} {Q:α->Shared->Prop} {f:Value->Value->Sem α}
  (hf:∀v u s2 x y H2,Inv X pins σ H2 s2->RelV x v->RelV y u->R x y H2->wpAny (model X.prog X.w) X.A (f v u) Q X.xe s2):
  wpAny (model X.prog X.w) X.A (eval a X.env) (fun v s₁=>wpAny (model X.prog X.w) X.A (eval b X.env) (fun u s₂=>wpAny (model X.prog X.w) X.A (f v u) Q X.xe s₂) X.xe s₁) X.xe s:=by
 refine thn (ha pins s σ H _ I h) fun v s1⟨x,H1,I1,r1,q1⟩=>?_
 refine thn (hb pins s1 σ H1 _ I1 q1) fun u s2⟨y,H2,I2,r2,q2⟩=>?_
 exact hf v u s2 x y H2 I2 r1 r2 q2
def Zcd(i:Nat):TE:=fun σ H Q=>∃v,σ[i]?=some (some v)/\Q v H
def tC(v:V):TE:=fun _ H Q=>Q v H
theorem Zim{i:Nat}{x:Str}{pos:Pos}(hN:X.N[i]?=some x)(hv:Vis X.env.scope x)(hd:(x==("__debug__":Str))=false:=by decide)(hcd:(x==("__classdict__":Str))=false:=by decide):PE X (.Name x pos) (Zcd i):=by
 intro pins s σ H Q I h
 obtain⟨v,e,h⟩:=h
 obtain⟨m,hn,hl⟩:=I.loc
 obtain⟨u,r,l⟩:=hl i x v hN e hv
 have fin:EP X pins σ Q u s:=⟨v,H,I,r,h⟩
 rcases l with⟨hk,hm⟩|⟨hk,c,hc,hcell⟩
 ·exact wpAny_Name (wpAny_loadName_local I.ok.kind hk hn hm fin) hd
 ·rcases hk with hk|hk
  ·exact wpAny_Name (wpAny_loadName_cell I.ok.kind hk hc hcell fin) hd
  ·exact wpAny_Name (wpAny_loadName_free I.ok.kind hk hc hcell fin hcd) hd
theorem Zc{i j pos}:PE X (.Constant (.int i) j pos) (tC (.int i)):=fun _ _ _ H _ I h=>wpAny_Constant_int ⟨.int i,H,I.tok _,⟨_,rfl⟩,h⟩
theorem ZcF{b j pos}:PE X (.Constant (.bool b) j pos) (tC (.bl b)):=fun _ _ _ H _ I h=>Constant_bool ⟨.bl b,H,I,rfl,h⟩
theorem Yj{j pos}:PE X (.Constant .none j pos) (tC .non):=fun _ _ _ H _ I h=>Constant_none ⟨.non,H,I,rfl,h⟩
theorem Yi{x j pos}:PE X (.Constant (.str x) j pos) (tC (.str x)):=fun _ _ _ H _ I h=>Calls.Constant_str ⟨.str x,H,I.tok _,⟨_,rfl⟩,h⟩
def Gl(X:Cx)(x:Str):Prop:=X.env.kindOf x=some .globalImplicit
theorem Jg{E:Value->Shared->Prop}{pins:List (Addr×Obj)}{s:Shared}{σ:St}{H:Hp}{x:Str}{u:Value}{pos:Pos}{Q:Value->Shared->Prop}(I:Inv X pins σ H s)(hg:Gl X x)(hm:X.mg x=some u)(h:Q u s)
  (hd:(x==("__debug__":Str))=false:=by decide):wpAny (model X.prog X.w) X.A (eval (.Name x pos) X.env) Q E s:=
 Calls.Name_function_global I.ok.kind hg (Calls.loadGlobal_global (by rw[I.ok.glob];exact I.mod.glob.keeps I.bk) hm h) hd
theorem Jh{E:Value->Shared->Prop}{pins:List (Addr×Obj)}{s:Shared}{σ:St}{H:Hp}{x:Str}{u:Value}{pos:Pos}{Q:Value->Shared->Prop}(I:Inv X pins σ H s)(hg:Gl X x)(hm:X.mg x=none)(hv:bootBuiltins x=some u)(h:Q u s)
  (hn:x≠"__name__":=by decide)(hd:(x==("__debug__":Str))=false:=by decide):wpAny (model X.prog X.w) X.A (eval (.Name x pos) X.env) Q E s:=by
 obtain⟨mb,h1,h2⟩:=I.mod.blt
 exact Calls.Name_function_global I.ok.kind hg (Calls.loadGlobal_builtin (by rw[I.ok.glob];exact I.mod.glob.keeps I.bk) hm (by rw[I.ok.blt];exact h1.keeps I.bk) ((h2 x hn).trans hv) h) hd
theorem Y4{x:Str}{v:V}{u:Value}{pos:Pos}(hg:Gl X x)(hm:X.mg x=some u)(r:RelV v u)(hd:(x==("__debug__":Str))=false:=by decide):PE X (.Name x pos) (tC v):=
 fun _ _ _ H _ I h=>Jg I hg hm ⟨v,H,I,r,h⟩ hd
theorem Yy{x:Str}{v:V}{u:Value}{pos:Pos}(hg:Gl X x)(hm:X.mg x=none)(hv:bootBuiltins x=some u)(r:RelV v u)(hn:x≠"__name__":=by decide)(hd:(x==("__debug__":Str))=false:=by decide):PE X (.Name x pos) (tC v):=
 fun _ _ _ H _ I h=>Jh I hg hm hv ⟨v,H,I,r,h⟩ hn hd
variable{a b:Expr}{ta tb:TE}{pos:Pos}
def PC(X:Cx)(op:CmpOp)(a b:Expr)(t:TE):Prop:=
 ∀(pins:List (Addr×Obj))(s:Shared)(σ:St)(H:Hp)(Q:VK),Inv X pins σ H s->t σ H Q->
  wpAny (model X.prog X.w) X.A (eval a X.env) (fun v s₁=>wpAny (model X.prog X.w) X.A (eval b X.env) (fun u s₂=>wpAny (model X.prog X.w) X.A (compareOp op v u) (EP X pins σ Q) X.xe s₂) X.xe s₁) X.xe s
theorem ZfH(b:Expr){op:CmpOp}(h:op≠.In)(h2:op≠.NotIn):behindInMarks op b=false:=by
 have e1:(op==CmpOp.In)=false:=by cases op<;>first|rfl|exact absurd rfl h
 have e2:(op==CmpOp.NotIn)=false:=by cases op<;>first|rfl|exact absurd rfl h2
 cases b<;>simp[behindInMarks,e1,e2]
def tB(t:TE):TT:=fun σ H Q=>t σ H fun x H1=>∃c,x= .bl c/\Q c H1
theorem Zdx{op:CmpOp}{t:TE}(h:PC X op a b t)(h1:behindInMarks op b=false:=by first|exact ZfH _ (by decide) (by decide)|rfl):PT X (.Compare a [op] [b] pos) (tB t):=by
 intro pins s σ H Q I hw
 refine wpAny_isTrue_Compare1 (thn (h pins s σ H _ I hw) fun v s1 h1=>thn h1 fun u s2 h2=>thn h2 fun c s3⟨x,H1,I1,r1,q1⟩=>?_) h1
 obtain⟨d,rfl,q⟩:=q1
 cases r1
 exact wpAny_truthy_bool ⟨H1,I1,q⟩
theorem ZS{e:Expr}{t:TE}(h:PE X e t)(he:∀whole,isTrue e X.env whole=(do let v<-whole;standAt e.pos;holding [v] (truthy v)):=by intro _;rfl):PT X e (tB t):=by
 intro pins s σ H Q I hw
 refine isTrue_plain (thn (h pins s σ H _ I hw) fun v s1⟨x,H1,I1,r1,q1⟩=>?_) (he _)
 obtain⟨d,rfl,q⟩:=q1
 cases r1
 exact wpAny_truthy_bool ⟨H1,I1,q⟩
variable{tA tB':TT}{rest:List Expr}
def ZkP(t u:TT):TT:=fun σ H Q=>t σ H fun c H1=>if c=true then u σ H1 Q else Q false H1
def tOr(t u:TT):TT:=fun σ H Q=>t σ H fun c H1=>if c=true then Q true H1 else u σ H1 Q
def ZkG(t:TT):TT:=fun σ H Q=>t σ H fun c H1=>Q (!c) H1
theorem pw_and1(ha:PT X a tA):PW X (.BoolOp .And [a] pos) tA:=by
 intro wh pins s σ H Q I h
 refine isTrue_and (thn (ha pins s σ H Q I h) fun c s1 e=>?_)
 cases c with
 |true=>exact isTrue_and_nil e
 |false=>exact e
theorem pw_or1(ha:PT X a tA):PW X (.BoolOp .Or [a] pos) tA:=by
 intro wh pins s σ H Q I h
 refine isTrue_or (thn (ha pins s σ H Q I h) fun c s1 e=>?_)
 cases c with
 |false=>exact isTrue_or_nil e
 |true=>exact e
theorem pw_and(ha:PT X a tA)(hb:PW X (.BoolOp .And (b::rest) pos) tB'):PW X (.BoolOp .And (a::b::rest) pos) (ZkP tA tB'):=by
 intro wh pins s σ H Q I h
 refine isTrue_and (thn (ha pins s σ H _ I h) fun c s1⟨H1,I1,q1⟩=>?_)
 cases c with
 |true=>exact hb wh pins s1 σ H1 Q I1 q1
 |false=>exact⟨H1,I1,q1⟩
theorem pw_or(ha:PT X a tA)(hb:PW X (.BoolOp .Or (b::rest) pos) tB'):PW X (.BoolOp .Or (a::b::rest) pos) (tOr tA tB'):=by
 intro wh pins s σ H Q I h
 refine isTrue_or (thn (ha pins s σ H _ I h) fun c s1⟨H1,I1,q1⟩=>?_)
 cases c with
 |true=>exact⟨H1,I1,q1⟩
 |false=>exact hb wh pins s1 σ H1 Q I1 q1
theorem ZY(ha:PT X a tA):PT X (.UnaryOp .Not a pos) (ZkG tA):=by
 intro pins s σ H Q I h
 exact isTrue_not (ha pins s σ H (fun c H1=>Q (!c) H1) I h)
def Zjd(ta tb:TE):TE:=fun σ H Q=>ta σ H fun x H1=>∃c,x= .bl c/\if c=true then tb σ H1 Q else Q (.bl false) H1
def ZkF(ta tb:TE):TE:=fun σ H Q=>ta σ H fun x H1=>∃c,x= .bl c/\if c=true then Q (.bl true) H1 else tb σ H1 Q
def ZiV(ta:TE):TE:=fun σ H Q=>ta σ H fun x H1=>∃c,x= .bl c/\Q (.bl (!c)) H1
theorem JI{op}{t:TE}(h:PE X a t):PE X (.BoolOp op [a] pos) t:=fun pins s σ H Q I hw=>BoolOp_one (h pins s σ H Q I hw)
theorem Jq(ha:PE X a ta)(hb:PE X (.BoolOp .And (b::rest) pos) tb):PE X (.BoolOp .And (a::b::rest) pos) (Zjd ta tb):=by
 intro pins s σ H Q I h
 refine BoolOp_and (thn (ha pins s σ H _ I h) fun v s1⟨x,H1,I1,r1,q1⟩=>?_)
 obtain⟨c,rfl,q1⟩:=q1
 cases r1
 refine wpAny_truthy_bool ?_
 cases c with
 |true=>exact hb pins s1 σ H1 Q I1 q1
 |false=>exact⟨.bl false,H1,I1,rfl,q1⟩
theorem Zjr(ha:PE X a ta)(hb:PE X (.BoolOp .Or (b::rest) pos) tb):PE X (.BoolOp .Or (a::b::rest) pos) (ZkF ta tb):=by
 intro pins s σ H Q I h
 refine BoolOp_or (thn (ha pins s σ H _ I h) fun v s1⟨x,H1,I1,r1,q1⟩=>?_)
 obtain⟨c,rfl,q1⟩:=q1
 cases r1
 refine wpAny_truthy_bool ?_
 cases c with
 |false=>exact hb pins s1 σ H1 Q I1 q1
 |true=>exact⟨.bl true,H1,I1,rfl,q1⟩
theorem Zin(ha:PE X a ta):PE X (.UnaryOp .Not a pos) (ZiV ta):=by
 intro pins s σ H Q I h
 refine UnaryOp_ (thn (ha pins s σ H _ I h) fun v s1⟨x,H1,I1,r1,q1⟩=>?_)
 obtain⟨c,rfl,q1⟩:=q1
 cases r1
 exact not_of (wpAny_truthy_bool ⟨.bl (!c),H1,I1,rfl,q1⟩)
def tIf(t:TT)(ta tb:TE):TE:=fun σ H Q=>t σ H fun c H1=>if c=true then ta σ H1 Q else tb σ H1 Q
theorem Zf1{c:Expr}(hc:PT X c tA)(ha:PE X a ta)(hb:PE X b tb):PE X (.IfExp c a b pos) (tIf tA ta tb):=by
 intro pins s σ H Q I h
 refine wpAny_IfExp (thn (hc pins s σ H _ I h) fun d s1⟨H1,I1,q1⟩=>?_)
 cases d with
 |true=>exact ha pins s1 σ H1 Q I1 q1
 |false=>exact hb pins s1 σ H1 Q I1 q1
end
def SqL(K:PySem.W.Frag)(H:Hp)(a:Addr)(xs:List V):Prop:=
 Rd H a (.lst xs)\/
  ∃(o:Obj)(its:Array Value)(n:Nat),K.lookup a=some o/\o.cls= .type "list"/\o.dict=none/\o.data= .seq its n/\its.size<=sizeLine/\Vals xs its.toList
def SqT(K:PySem.W.Frag)(H:Hp)(a:Addr)(xs:List V):Prop:=
 Rd H a (.tup xs)\/
  ∃(o:Obj)(its:Array Value)(n:Nat),K.lookup a=some o/\o.cls= .type "tuple"/\o.data= .seq its n/\its.size<=sizeLine/\Vals xs its.toList
def ZlA:Value->Option V
 | .none=>some .non
 | .bool b=>some (.bl b)
 | .int i _=>some (.int i)
 | .str x _=>some (.str x)
 | .bytes b _=>some (.byt b)
 | .float b _=>some (.flt b)
 | .ref a=>some (.ref a)
 | .type n=>some (.ty n)
 |_=>none
theorem RelV.abs{x:V}{u:Value}(r:RelV x u):ZlA u=some x:=by
 cases x with
 |non=>cases r;rfl
 |bl _=>cases r;rfl
 |int _=>obtain⟨t,rfl⟩:=r;rfl
 |str _=>obtain⟨t,rfl⟩:=r;rfl
 |byt _=>obtain⟨t,rfl⟩:=r;rfl
 |flt _=>obtain⟨t,rfl⟩:=r;rfl
 |ref _=>cases r;rfl
 |ty _=>cases r;rfl
theorem RelV.inj{x y:V}{u:Value}(r:RelV x u)(q:RelV y u):x=y:=Option.some.inj (r.abs.symm.trans q.abs)
theorem Vals.inj:∀{xs ys:List V}{us:List Value},Vals xs us->Vals ys us->xs=ys
 |_,_,_,.nil,.nil=>rfl
 |_,_,_,.cons r t,.cons r' t'=>by rw[r.inj r',Vals.inj t t']
section
variable{X:Cx}{pins:List (Addr×Obj)}{σ:St}{H:Hp}{s:Shared}{a:Addr}{xs ys:List V}
theorem SqL.of{K:PySem.W.Frag}(h:H a=some (.lst xs)):SqL K H a xs:= .inl (.inl h)
theorem SqT.of{K:PySem.W.Frag}(h:H a=some (.tup xs)):SqT K H a xs:= .inl (.inl h)
theorem Inv.list(I:Inv X pins σ H s)(h:SqL X.K H a xs):∃its:List Value,Vals xs its/\PlainL s.heap a its.toArray/\xs.length<=sizeLine:=by
 rcases h with h|⟨o,its,n,hk,hc,hd,hs,hz,r⟩
 ·obtain⟨z,its,n,r,e⟩:=h.ok I.hok
  exact⟨its,r,⟨_,n,e,rfl,rfl,rfl⟩,z⟩
 ·refine⟨its.toList,r,⟨o,n,I.kIn a o hk,hc,hd,by simpa using hs⟩,?_⟩
  have e:=r.length
  simp only[Array.length_toList]at e
  omega
theorem Inv.tuple(I:Inv X pins σ H s)(h:SqT X.K H a xs):∃its:List Value,Vals xs its/\IsTup s.heap a its.toArray/\xs.length<=sizeLine:=by
 rcases h with h|⟨o,its,n,hk,hc,hs,hz,r⟩
 ·obtain⟨z,its,r,p⟩:=h.ok I.hok
  exact⟨its,r,p,z⟩
 ·refine⟨its.toList,r,⟨o,I.kIn a o hk,hc,n,by simpa using hs⟩,?_⟩
  have e:=r.length
  simp only[Array.length_toList]at e
  omega
theorem Inv.list_inj(I:Inv X pins σ H s)(h:SqL X.K H a xs)(h':SqL X.K H a ys):xs=ys:=by
 obtain⟨its,r,⟨o,n,e,_,_,d⟩,_⟩:=I.list h
 obtain⟨its',r',⟨o',n',e',_,_,d'⟩,_⟩:=I.list h'
 rw[e]at e';cases e'
 rw[d]at d'
 injection d' with d1 _
 have:its=its':=by simpa using congrArg Array.toList d1
 subst this
 exact r.inj r'
theorem Inv.tuple_inj(I:Inv X pins σ H s)(h:SqT X.K H a xs)(h':SqT X.K H a ys):xs=ys:=by
 obtain⟨its,r,⟨o,e,_,n,d⟩,_⟩:=I.tuple h
 obtain⟨its',r',⟨o',e',_,n',d'⟩,_⟩:=I.tuple h'
 rw[e]at e';cases e'
 rw[d]at d'
 injection d' with d1 _
 have:its=its':=by simpa using congrArg Array.toList d1
 subst this
 exact r.inj r'
end
abbrev Cx.wish(X:Cx)(E:Value->Shared->Prop):Cx:={X with xe:=E}
abbrev Cx.nox(X:Cx):Cx:=X.wish fun _ _=>False
theorem Cx.Ok.wish{X:Cx}(ok:X.Ok)(E:Value->Shared->Prop):(X.wish E).Ok:=
 ⟨ok.mod,ok.kind,ok.glob,ok.blt,ok.above,ok.inj,ok.has,ok.cab,ok.hd,ok.frames,ok.stk,ok.exf,ok.bs,ok.bsz,ok.noex,ok.exfs,ok.funs,ok.frf⟩
theorem Cx.Ok.unwish{X:Cx}{E:Value->Shared->Prop}(ok:(X.wish E).Ok):X.Ok:=
 ⟨ok.mod,ok.kind,ok.glob,ok.blt,ok.above,ok.inj,ok.has,ok.cab,ok.hd,ok.frames,ok.stk,ok.exf,ok.bs,ok.bsz,ok.noex,ok.exfs,ok.funs,ok.frf⟩
section
variable{X:Cx}{pins:List (Addr×Obj)}{σ:St}{H:Hp}{s:Shared}{E:Value->Shared->Prop}
theorem Inv.wish(I:Inv X pins σ H s)(E:Value->Shared->Prop):Inv (X.wish E) pins σ H s:=⟨I.ok.wish E,I.os,I.bare,I.base,I.loc,I.cell,I.free,I.freeC,I.pin,I.hok,I.len⟩
theorem Inv.unwish(I:Inv (X.wish E) pins σ H s):Inv X pins σ H s:=⟨I.ok.unwish,I.os,I.bare,I.base,I.loc,I.cell,I.free,I.freeC,I.pin,I.hok,I.len⟩
theorem SP.unwish{D:Ends}{f:Flow}{s':Shared}(h:SP (X.wish E) pins D f s'):SP X pins D f s':=by
 cases f with
 |next=>obtain⟨σ',H',I,q⟩:=h;exact⟨σ',H',I.unwish,q⟩
 |brk=>obtain⟨σ',H',I,q⟩:=h;exact⟨σ',H',I.unwish,q⟩
 |cont=>obtain⟨σ',H',I,q⟩:=h;exact⟨σ',H',I.unwish,q⟩
 |ret u=>obtain⟨v,σ',H',I,r,q⟩:=h;exact⟨v,σ',H',I.unwish,r,q⟩
theorem PT.nox{e:Expr}{t:TT}(h:PT X.nox e t):PT X e t:=fun pins s σ H Q I hw=>
 wpAny_mono (h pins s σ H Q (I.wish _) hw) (fun _ _⟨H',I',q⟩=>⟨H',I'.unwish,q⟩) fun _ _ z=>False.elim z
theorem PSs.nox{st:List Stmt}{t:TS}(h:PSs X.nox st t):PSs X st t:=fun pins s σ H D I hw=>
 wpAny_mono (h pins s σ H D (I.wish _) hw) (fun _ _ q=>q.unwish) fun _ _ z=>False.elim z
end
section
variable{X:Cx}{st:Stmt}{rest:List Stmt}{t u:TS}{e:Expr}{te:TE}{pos:Pos}
def tNext:TS:=fun D σ H=>D.nx σ H
def ZkE(t u:TS):TS:=fun D σ H=>t {D with nx:=u D} σ H
theorem Zr:PSs X [] tNext:=fun _ _ σ H _ I h=>wpAny_execs_nil ⟨σ,H,I,h⟩
theorem Zb(h1:PS X st t)(h2:PSs X rest u):PSs X (st::rest) (ZkE t u):=by
 intro pins s σ H D I h
 refine wpAny_execs_cons (thn (h1 pins s σ H {D with nx:=u D} I h) fun f s1 q=>?_)
 cases f with
 |next=>
  obtain⟨σ',H',I',q⟩:=q
  exact h2 pins s1 σ' H' D I' q
 |ret v=>exact q
 |brk=>exact q
 |cont=>exact q
theorem Zh(h1:PS X st t):PSs X [st] t:=by
 intro pins s σ H D I h
 refine wpAny_execs_cons (thn (h1 pins s σ H D I h) fun f s1 q=>?_)
 cases f with
 |next=>exact wpAny_execs_nil q
 |ret v=>exact q
 |brk=>exact q
 |cont=>exact q
theorem Inv.quiet{pins:List (Addr×Obj)}{σ:St}{H:Hp}{s:Shared}(I:Inv X pins σ H s):interactive X.env=false:=by simp[interactive,I.ok.kind]
def Zja(te:TE):TS:=fun D σ H=>te σ H fun _ H1=>D.nx σ H1
theorem YD(he:PE X e te)(hs:swapsWith e none pos.line X.env=pure false:=by rfl):PS X (.Expr e pos) (Zja te):=by
 intro pins s σ H D I h
 exact wpAny_Expr_any (thn (he pins s σ H _ I h) fun v s1⟨x,H1,I1,r1,q1⟩=>⟨σ,H1,I1,q1⟩) I.quiet hs
def ZiT(te:TE):TS:=fun D σ H=>te σ H D.rt
theorem Z2(he:PE X e te):PS X (.Return (some e) pos) (ZiT te):=by
 intro pins s σ H D I h
 exact wpAny_Return_some (thn (he pins s σ H _ I h) fun v s1⟨x,H1,I1,r1,q1⟩=>⟨x,σ,H1,I1,r1,q1⟩)
def ZkK(c:TT)(t u:TS):TS:=fun D σ H=>c σ H fun b H1=>if b=true then t D σ H1 else u D σ H1
theorem Z3{c:Expr}{a b:List Stmt}{tc:TT}(hc:PT X c tc)(ha:PSs X a t)(hb:PSs X b u):PS X (.If c a b pos) (ZkK tc t u):=by
 intro pins s σ H D I h
 refine wpAny_If (thn (hc pins s σ H _ I h) fun d s1⟨H1,I1,q1⟩=>?_)
 cases d with
 |true=>exact ha pins s1 σ H1 D I1 q1
 |false=>exact hb pins s1 σ H1 D I1 q1
def tNever:TS:=fun _ _ _=>False
theorem Zw{sts:List Stmt}:PSs X sts tNever:=fun _ _ _ _ _ _ h=>h.elim
end
abbrev TG:=V->St->Hp->(St->Hp->Prop)->Prop
abbrev TGs:=List V->St->Hp->(St->Hp->Prop)->Prop
def PG(X:Cx)(target:Expr)(t:TG):Prop:=
 ∀(pins:List (Addr×Obj))(s:Shared)(σ:St)(H:Hp)(v:V)(u:Value)(Q:St->Hp->Prop),Inv X pins σ H s->RelV v u->t v σ H Q->
  wpAny (model X.prog X.w) X.A (assign target X.env u) (fun _ s'=>∃σ' H',Inv X pins σ' H' s'/\Q σ' H') X.xe s
def PGs(X:Cx)(ts:List Expr)(t:TGs):Prop:=
 ∀(pins:List (Addr×Obj))(s:Shared)(σ:St)(H:Hp)(vs:List V)(us:List Value)(Q:St->Hp->Prop),Inv X pins σ H s->Vals vs us->t vs σ H Q->
  wpAny (model X.prog X.w) X.A (assignInOrder ((assignEach ts X.env).map (·.2)) us) (fun _ s'=>∃σ' H',Inv X pins σ' H' s'/\Q σ' H') X.xe s
abbrev Zgs:=V->V->V->Hp->(Hp->Prop)->Prop
def Zh1(X:Cx)(t:Zgs):Prop:=
 ∀(pins:List (Addr×Obj))(s:Shared)(σ:St)(H:Hp)(o i v:V)(ov iv u:Value)(Q:Hp->Prop),Inv X pins σ H s->RelV o ov->RelV i iv->RelV v u->t o i v H Q->
  wpAny (model X.prog X.w) X.A (setItem ov iv u) (fun _ s'=>∃H',Inv X pins σ H' s'/\Q H') X.xe s
abbrev TIp:=V->V->Hp->VK->Prop
def PIp(X:Cx)(op:Operator)(t:TIp):Prop:=
 ∀(pins:List (Addr×Obj))(s:Shared)(σ:St)(H:Hp)(x y:V)(v u:Value)(Q:VK),Inv X pins σ H s->RelV x v->RelV y u->t x y H Q->
  wpAny (model X.prog X.w) X.A (inplaceOp op v u) (EP X pins σ Q) X.xe s
section
variable{X:Cx}{pos:Pos}
def Jw(i:Nat):TG:=fun v σ H Q=>Q (σ.set i (some v)) H
theorem Zt{i:Nat}{x:Str}(hN:X.N.Nodup)(hi:X.N[i]?=some x)(hx:Loc X.env.scope x)(hf:X.fn x=true\/X.env.scope.names.lookup x=some .local:=by first|exact .inl rfl|exact .inr rfl|assumption):PG X (.Name x pos) (Jw i):=by
 intro pins s σ H v u Q I r h
 exact wpAny_assign_Name (JS I hN hi hx r (fun s' I'=>⟨_,H,I',h⟩) hf)
def gNil:TGs:=fun vs σ H Q=>vs=[]/\Q σ H
def Zkg(t:TG)(u:TGs):TGs:=fun vs σ H Q=>∃v r,vs=v::r/\t v σ H fun σ' H'=>u r σ' H' Q
theorem JU:PGs X [] gNil:=by
 intro pins s σ H vs us Q I r h
 obtain⟨e,h⟩:=h
 subst e
 cases r
 exact assignInOrder_nil ⟨σ,H,I,h⟩
theorem Yp{e:Expr}{es:List Expr}{t:TG}{u:TGs}(h1:PG X e t)(h2:PGs X es u)
  (hs:(assignEach (e::es) X.env).map (·.2)=assign e X.env::(assignEach es X.env).map (·.2):=by rfl):PGs X (e::es) (Zkg t u):=by
 intro pins s σ H vs us Q I r h
 obtain⟨v,vr,e1,h⟩:=h
 subst e1
 cases r with
 |cons r rr=>
  rw[hs]
  refine assignInOrder_cons (thn (h1 pins s σ H _ _ _ I r h) fun _ s1⟨σ1,H1,I1,q1⟩=>?_)
  exact h2 pins s1 σ1 H1 _ _ Q I1 rr q1
def Zkf(K:PySem.W.Frag)(n:Nat)(t:TGs):TG:=fun v σ H Q=>∃a xs,v= .ref a/\SqT K H a xs/\xs.length=n/\t xs σ H Q
theorem Zd0{es:List Expr}{k:Nat}{t:TGs}{n:Nat}(hc:X.calm=true)(h:PGs X es t)
  (hn:(assignEach es X.env).length=n:=by rfl)(hst:(assignEach es X.env).findIdx? (·.1)=none:=by rfl):PG X (.Tuple es k pos) (Zkf X.K n t):=by
 intro pins s σ H v u Q I r hw
 obtain⟨a,xs,e1,hq,hl,hw⟩:=hw
 subst e1
 cases r
 obtain⟨its,rv,ht,hz⟩:=I.tuple hq
 refine assign_Tuple_tuple (I.ok.hd hc) ht (by simp[hn,<-hl,rv.length]) hst fun h' hx=>?_
 have I1:Inv X pins σ H {s with heap:=h'}:=I.kept (t':=s.toks) fun b o e=>hx b o (Nat.ne_of_lt (Heap.lt_size e)) e
 exact h pins _ σ H xs _ Q I1 (by simpa using rv) hw
def Zl3(to ti:TE)(t:Zgs):TG:=fun v σ H Q=>to σ H fun o H1=>ti σ H1 fun i H2=>t o i v H2 fun H3=>Q σ H3
theorem Zba{o i:Expr}{to ti:TE}{t:Zgs}(ho:PE X o to)(hi:PE X i ti)(hs:Zh1 X t)
  (ha:∀v,assign (.Subscript o i pos) X.env v=(do
   let ov<-holding [v] (eval o X.env)
   let iv<-holding [v,ov] (eval i X.env)
   standAt pos
   holding [v,ov,iv] (setItem ov iv v)
   release [v,ov,iv] []):=by intro _;rfl):PG X (.Subscript o i pos) (Zl3 to ti t):=by
 intro pins s σ H v u Q I r h
 rw[ha]
 refine wpAny_bind (wpAny_holding (thn (ho pins s σ H _ I h) fun ov s1⟨x,H1,I1,r1,q1⟩=>?_))
 refine wpAny_bind (wpAny_holding (thn (hi pins s1 σ H1 _ I1 q1) fun iv s2⟨y,H2,I2,r2,q2⟩=>?_))
 refine wpAny_bind (wpAny_standAt (wpAny_bind (wpAny_holding (thn (hs pins s2 σ H2 x y v ov iv u _ I2 r1 r2 r q2) fun _ s3⟨H3,I3,q3⟩=>?_))))
 exact wpAny_release ⟨σ,H3,I3,q3⟩
def Zdo(te:TE)(g:TG):TS:=fun D σ H=>te σ H fun x H1=>g x σ H1 D.nx
theorem JH{tg e:Expr}{te:TE}{g:TG}(he:PE X e te)(hg:PG X tg g)(hs:swapsWithSole [tg] e pos.line X.env=pure false:=by rfl)(hw:swappedStores [tg] e X.env=pure none:=by rfl)
  (h1:(assignEach [tg] X.env).map (·.2)=[assign tg X.env]:=by rfl):PS X (.Assign [tg] e pos) (Zdo te g):=by
 intro pins s σ H D I h
 refine wpAny_Assign_stores (thn (he pins s σ H _ I h) fun v s1⟨x,H1,I1,r1,q1⟩=>?_) hs hw
 rw[h1]
 exact thn (hg pins s1 σ H1 x v _ I1 r1 q1) fun _ s2 q=>q
theorem Zm{i:Nat}{x:Str}{e:Expr}{te:TE}{pos':Pos}(hN:X.N.Nodup)(hi:X.N[i]?=some x)(hx:Loc X.env.scope x)(he:PE X e te)(hs:swapsWith e (some (.Name x pos')) pos.line X.env=pure false:=by rfl)(hf:X.fn x=true\/X.env.scope.names.lookup x=some .local:=by first|exact .inl rfl|exact .inr rfl|assumption):
  PS X (.Assign [.Name x pos'] e pos) (Zdo te (Jw i)):=by
 intro pins s σ H D I h
 refine wpAny_Assign_Name (thn (he pins s σ H _ I h) fun v s1⟨y,H1,I1,r1,q1⟩=>?_) hs
 exact JS I1 hN hi hx r1 (fun s2 I2=>⟨_,H1,I2,q1⟩) hf
def ZkO(i:Nat)(te:TE)(ti:TIp):TS:=fun D σ H=>∃x,σ[i]?=some (some x)/\te σ H fun y H1=>ti x y H1 fun z H2=>D.nx (σ.set i (some z)) H2
theorem Zij{i:Nat}{x:Str}{e:Expr}{te:TE}{op:Operator}{ti:TIp}{pos':Pos}(hN:X.N.Nodup)(hi:X.N[i]?=some x)(hx:Loc X.env.scope x)(he:PE X e te)(ho:PIp X op ti)(hf:X.fn x=true\/X.env.scope.names.lookup x=some .local:=by first|exact .inl rfl|exact .inr rfl|assumption):
  PS X (.AugAssign (.Name x pos') op e pos) (ZkO i te ti):=by
 intro pins s σ H D I h
 obtain⟨v,e1,h⟩:=h
 obtain⟨m,hn,hl⟩:=I.loc
 have vis:Vis X.env.scope x:=by rcases hx with k|k;exact .inl k;exact .inr (.inl k)
 obtain⟨u,r,l⟩:=hl i x v hi e1 vis
 refine wpAny_AugAssign_Name ?_
 have go:wpAny (model X.prog X.w) X.A (eval e X.env) (fun w s₂=>wpAny (model X.prog X.w) X.A (inplaceOp op u w) (fun r s₃=>wpAny (model X.prog X.w) X.A (storeName X.env x r) (fun _=>SP X pins D .next) X.xe s₃) X.xe s₂) X.xe s:=by
  refine thn (he pins s σ H _ I h) fun w s1⟨y,H1,I1,r1,q1⟩=>?_
  refine thn (ho pins s1 σ H1 v y u w _ I1 r r1 q1) fun z s2⟨zv,H2,I2,r2,q2⟩=>?_
  exact JS I2 hN hi hx r2 (fun s3 I3=>⟨_,H2,I3,q2⟩) hf
 rcases l with⟨hk,hm⟩|⟨hk,c,hc,hcell⟩
 ·exact wpAny_loadName_local I.ok.kind hk hn hm go
 ·rcases hk with hk|hk
  ·exact wpAny_loadName_cell I.ok.kind hk hc hcell go
  ·rcases hx with k|k
   ·have:X.env.scope.names.lookup x=some .free:=hk
    rw[k]at this;cases this
   ·have:X.env.scope.names.lookup x=some .free:=hk
    rw[k]at this;cases this
def Zjc(to ti te:TE)(tget:V->V->Hp->VK->Prop)(tip:TIp)(tset:Zgs):TS:=fun D σ H=>to σ H fun o H1=>ti σ H1 fun i H2=>tget o i H2 fun x H3=>te σ H3 fun y H4=>tip x y H4 fun z H5=>tset o i z H5 fun H6=>D.nx σ H6
def Zk9(X:Cx)(t:V->V->Hp->VK->Prop):Prop:=
 ∀(pins:List (Addr×Obj))(s:Shared)(σ:St)(H:Hp)(o i:V)(ov iv:Value)(Q:VK),Inv X pins σ H s->RelV o ov->RelV i iv->t o i H Q->
  wpAny (model X.prog X.w) X.A (getItem ov iv) (EP X pins σ Q) X.xe s
theorem ZgD{o i e:Expr}{to ti te:TE}{tget:V->V->Hp->VK->Prop}{tip:TIp}{tset:Zgs}{op:Operator}{tpos:Pos}(ho:PE X o to)(hi:PE X i ti)(hg:Zk9 X tget)(he:PE X e te)(hp:PIp X op tip)(hs:Zh1 X tset)
  (ha:∀ov iv new,augStore i ov iv new=(do holding [new,ov,iv] (setItem ov iv new);release [new,ov,iv] [];pure .next):=by intros;rfl):PS X (.AugAssign (.Subscript o i tpos) op e pos) (Zjc to ti te tget tip tset):=by
 intro pins s σ H D I h
 refine wpAny_AugAssign_SubscriptAny (thn (ho pins s σ H _ I h) fun ov s1⟨x1,H1,I1,r1,q1⟩=>?_) ha
 refine thn (hi pins s1 σ H1 _ I1 q1) fun iv s2⟨x2,H2,I2,r2,q2⟩=>?_
 refine thn (hg pins s2 σ H2 x1 x2 ov iv _ I2 r1 r2 q2) fun old s3⟨x3,H3,I3,r3,q3⟩=>?_
 refine thn (he pins s3 σ H3 _ I3 q3) fun v s4⟨x4,H4,I4,r4,q4⟩=>?_
 refine thn (hp pins s4 σ H4 x3 x4 old v _ I4 r3 r4 q4) fun new s5⟨x5,H5,I5,r5,q5⟩=>?_
 exact thn (hs pins s5 σ H5 x1 x2 x5 ov iv new _ I5 r1 r2 r5 q5) fun _ s6⟨H6,I6,q6⟩=>⟨σ,H6,I6,q6⟩
def ipI(f:Int->Int->Int):TIp:=fun x y H Q=>∃i j,x= .int i/\y= .int j/\Q (.int (f i j)) H
theorem ZfX:PIp X .Add (ipI fun i j=>i+j):=by
 intro pins s σ H x y v u Q I r1 r2 h
 obtain⟨i,j,e1,e2,q⟩:=h
 subst e1;subst e2
 obtain⟨t,rfl⟩:=r1
 obtain⟨t',rfl⟩:=r2
 exact iadd_int ⟨.int _,H,I.tok _,⟨_,rfl⟩,q⟩
def ZhQ(c:TT)(tb:TS):TS:=fun D σ H=>∃W:Nat->St->Hp->Prop,(∃m,W m σ H)/\∀m σ H,W m σ H->
 c σ H fun b H1=>if b=true then∃N:St->Hp->Prop,(∀σ' H',N σ' H'->∃m',m'<m/\W m' σ' H')/\tb {D with nx:=N,ct:=N,bk:=D.nx} σ H1 else D.nx σ H1
theorem Zfu{c:Expr}{body:List Stmt}{tc:TT}{tb:TS}(hp:PassesOwn (model X.prog X.w) X.A X.env X.xe)(hc:PT X c tc)(hb:PSs X body tb):PS X (.While c body [] pos) (ZhQ tc tb):=by
 intro pins s σ H D I h
 obtain⟨W,⟨m0,w0⟩,turn⟩:=h
 refine wpAny_While (codeAny_whileLoop (fun n s'=>∃σ' H',Inv X pins σ' H' s'/\W n σ' H') ?_ m0 ⟨σ,H,I,w0⟩)
 rintro n s1 ⟨σ1,H1,I1,w1⟩
 refine wpAny_passesOwn hp (thn (hc pins s1 σ1 H1 _ I1 (turn n σ1 H1 w1)) fun b s2⟨H2,I2,q2⟩=>?_)
 cases b with
 |true=>
  obtain⟨N,hN,q2⟩:=q2
  rw[if_pos rfl]
  refine wpAny_passesOwn hp (thn (hb pins s2 σ1 H2 _ I2 q2) fun f s3 q3=>?_)
  cases f with
  |next=>
   obtain⟨σ3,H3,I3,n3⟩:=q3
   obtain⟨m',hm,w3⟩:=hN σ3 H3 n3
   exact⟨m',hm,σ3,H3,I3,w3⟩
  |cont=>
   obtain⟨σ3,H3,I3,n3⟩:=q3
   obtain⟨m',hm,w3⟩:=hN σ3 H3 n3
   exact⟨m',hm,σ3,H3,I3,w3⟩
  |brk=>exact q3
  |ret v=>exact q3
 |false=>
  rw[if_neg Bool.false_ne_true]
  exact wpAny_execs_nil ⟨σ1,H2,I2,q2⟩
end
structure It where
 go:Nat->Hp->Prop
 yld:Nat->Hp->V->Hp->Prop
 stop:Nat->Hp->Prop
def FpOk(X:Cx)(pins:List (Addr×Obj))(H:Hp)(b:Addr):Prop:=
 H b=none/\b≠X.env.locals/\b ∉ X.fs/\(b∈X.ex\/X.s₀.heap.objs.size<=b)/\(∀x c,X.env.cells.lookup x=some c->c≠b)/\∀p∈X.pn++pins,p.1≠b
theorem Inv.fpOk{X:Cx}{pins:List (Addr×Obj)}{σ:St}{H H':Hp}{s:Shared}{b:Addr}(I:Inv X pins σ H s)(hb:s.heap.objs.size<=b)(hn:H' b=none):FpOk X pins H' b:=by
 refine⟨hn,Nat.ne_of_gt (Nat.lt_of_lt_of_le I.lt hb),I.nofs hb,.inr (Nat.le_trans I.sz hb),fun x c e z=>?_,fun p hp z=>?_⟩
 ·obtain⟨v,q⟩:=I.cell x c e
  exact absurd (Nat.lt_of_lt_of_le q.lt (by rw[z];exact hb)) (Nat.lt_irrefl _)
 ·exact absurd (Nat.lt_of_lt_of_le (Heap.lt_size (I.pin p hp).1) (by rw[z];exact hb)) (Nat.lt_irrefl _)
structure Turn(P:Program)(w:World)(K:PySem.W.Frag)(tg:Expr)(J:It)(fp:List Addr)(it:Addr)(tn:Nat->Heap->Prop):Prop where
 mem:it∈fp
 obj:∀i h,tn i h->∀b∈fp,∃o,h.get? b=some o/\∀v,o.data≠.cell v
 keep:∀i h h',tn i h->(∀b∈fp,∀o,h.get? b=some o->h'.get? b=some o)->tn i h'
 item:∀(X:Cx),X.prog=P->X.w=w->X.K=K->X.calm=true->∀(i:Nat)(pins:List (Addr×Obj))(s:Shared)(σ:St)(H:Hp)(E:Value->Shared->Prop),Inv X pins σ H s->(∀b∈fp,FpOk X pins H b)->tn i s.heap->J.go i H->
  wpAny (model P w) X.A (pyNext (.ref it)) (fun r s1=>∃u,r=some u/\
   wpAny (model P w) X.A (letOwnedTupleGo tg (.ref it) u) (fun _ s2=>∃x H',Inv X pins σ H' s2/\RelV x u/\J.yld i H x H'/\tn (i+1) s2.heap/\∀b∈fp,H' b=none) E s1) E s
 done:∀(X:Cx),X.prog=P->X.w=w->X.K=K->X.calm=true->∀(i:Nat)(pins:List (Addr×Obj))(s:Shared)(σ:St)(H:Hp)(E:Value->Shared->Prop),Inv X pins σ H s->(∀b∈fp,FpOk X pins H b)->tn i s.heap->J.stop i H->
  wpAny (model P w) X.A (pyNext (.ref it)) (fun r s1=>r=none/\Inv X pins σ H s1) E s
 self:∀(A:Around)(i:Nat)(s:Shared)(Q:Value->Shared->Prop)(E:Value->Shared->Prop),tn i s.heap->Q (.ref it) s->wpAny (model P w) A (pyIter (.ref it)) Q E s
abbrev TI:=St->Hp->(It->Hp->Prop)->Prop
def PIE(X:Cx)(pins:List (Addr×Obj))(σ:St)(tg:Expr)(R:It->Hp->Prop)(itv:Value)(s2:Shared):Prop:=
 ∃(it:Addr)(fp:List Addr)(tn:Nat->Heap->Prop)(J:It)(H':Hp),itv= .ref it/\Inv X pins σ H' s2/\Turn X.prog X.w X.K tg J fp it tn/\tn 0 s2.heap/\(∀b∈fp,FpOk X pins H' b)/\R J H'
def PI(X:Cx)(tg iter:Expr)(wi:TI):Prop:=
 ∀(pins:List (Addr×Obj))(s:Shared)(σ:St)(H:Hp)(R:It->Hp->Prop),Inv X pins σ H s->wi σ H R->
  wpAny (model X.prog X.w) X.A (eval iter X.env) (fun v s1=>wpAny (model X.prog X.w) X.A (pyIter v) (PIE X pins σ tg R) X.xe s1) X.xe s
theorem Zgb{M:Model}{A:Around}{E:Value->Shared->Prop}{s:Shared}{tg:Expr}{it:Addr}{u:Value}{o:Obj}{n:String}{vs:Array Value}{Q:Unit->Shared->Prop}(ho:s.heap.get? it=some o)(hc:o.cls= .type n)(hd:o.data= .fields vs)
  (hn:["enumerate","zip","dict_itemiterator","dict_reverseitemiterator","odict_iterator","itertools.zip_longest","itertools.pairwise"].contains n=false)(hQ:Q () s):wpAny M A (letOwnedTupleGo tg (.ref it) u) Q E s:=by
 unfold letOwnedTupleGo
 cases tg<;>first
  |exact wpAny_pure hQ
  |(cases u<;>first
    |exact wpAny_pure hQ
    |(refine wpAny_bind (wpAny_load ho ?_)
      rw[hc,hd]
      show wpAny M A (if(["enumerate","zip","dict_itemiterator","dict_reverseitemiterator","odict_iterator","itertools.zip_longest","itertools.pairwise"].contains n&&vs[0]?==some (rawInt _))=true then _ else _) Q E s
      rw[if_neg (by intro h;rw[hn,Bool.false_and]at h;cases h)]
      exact wpAny_pure hQ))
def Itl(K:PySem.W.Frag)(a:Addr):It:=
 ⟨fun i H=>∃xs x,SqL K H a xs/\xs[i]?=some x,fun i H x H'=>H'=H/\∀xs,SqL K H a xs->xs[i]?=some x,fun i H=>∃xs,SqL K H a xs/\xs.length<=i⟩
def Itt(K:PySem.W.Frag)(a:Addr):It:=
 ⟨fun i H=>∃xs x,SqT K H a xs/\xs[i]?=some x,fun i H x H'=>H'=H/\∀xs,SqT K H a xs->xs[i]?=some x,fun i H=>∃xs,SqT K H a xs/\xs.length<=i⟩
def Itr(lo:Int)(n:Nat):It:=⟨fun i _=>i<n,fun i H x H'=>H'=H/\x= .int (lo+i),fun i _=>n<=i⟩
theorem Ze1{P:Program}{w:World}{K:PySem.W.Frag}{tg:Expr}(a it:Addr):Turn P w K tg (Itl K a) [it] it (fun i h=>h.IsListIter it a i)where
 mem:=by simp
 obj:=fun i h st b hb=>by
  have e:b=it:=by simpa using hb
  subst e
  obtain⟨o,e,c,d⟩:=st
  exact⟨o,e,fun v z=>by rw[d]at z;cases z⟩
 keep:=fun i h h' st k=>st.at fun o e=>k it (by simp) o e
 item:=by
  intro X hP hw hK hc i pins s σ H E I hf st hg
  subst hP hw hK
  obtain⟨xs,x,hq,hx⟩:=hg
  obtain⟨its,rv,p,hz⟩:=I.list hq
  obtain⟨u,hu,ru⟩:=rv.get hx
  obtain⟨f0,f1,f2,f3,f4,f5⟩:=hf it (by simp)
  refine wpAny_pyNext_list_item st p.isList (x:=u) (by simpa using hu) fun h' st' sb=>?_
  have I1:Inv X pins σ H {s with heap:=h'}:=I.turned (t':=s.toks) (fun b o hb e=>(sb.2 b hb).trans e) f0 f1 f3 f4 f5
  obtain⟨o,e,c,d⟩:=id st'
  exact⟨u,rfl,Zgb (s:={s with heap:=h'}) e c d (by decide) ⟨x,H,I1,ru,⟨rfl,fun ys hy=>by rw[I.list_inj hy hq];exact hx⟩,st',fun b hb=>(hf b hb).1⟩⟩
 done:=by
  intro X hP hw hK hc i pins s σ H E I hf st hg
  subst hP hw hK
  obtain⟨xs,hq,hx⟩:=hg
  obtain⟨its,rv,p,hz⟩:=I.list hq
  obtain⟨f0,f1,f2,f3,f4,f5⟩:=hf it (by simp)
  have hl:=rv.length
  exact wpAny_pyNext_list_end (I.ok.hd hc) st p.isList (by simp;omega) fun h' eb=>⟨rfl,I.turned (t':=s.toks) (fun b o hb e=>eb b o hb e) f0 f1 f3 f4 f5⟩
 self:=fun _ _ _ _ _ st h=>wpAny_pyIter_listiter st h
theorem Zdh{P:Program}{w:World}{K:PySem.W.Frag}{tg:Expr}(a it:Addr):Turn P w K tg (Itt K a) [it] it (fun i h=>h.IsTupleIter it a i)where
 mem:=by simp
 obj:=fun i h st b hb=>by
  have e:b=it:=by simpa using hb
  subst e
  obtain⟨o,e,c,d⟩:=st
  exact⟨o,e,fun v z=>by rw[d]at z;cases z⟩
 keep:=fun i h h' st k=>st.at fun o e=>k it (by simp) o e
 item:=by
  intro X hP hw hK hc i pins s σ H E I hf st hg
  subst hP hw hK
  obtain⟨xs,x,hq,hx⟩:=hg
  obtain⟨its,rv,p,hz⟩:=I.tuple hq
  obtain⟨u,hu,ru⟩:=rv.get hx
  obtain⟨f0,f1,f2,f3,f4,f5⟩:=hf it (by simp)
  refine wpAny_pyNext_tuple_item st (show s.heap.IsTuple a its.toArray from p) (x:=u) (by simpa using hu) fun h' st' sb=>?_
  have I1:Inv X pins σ H {s with heap:=h'}:=I.turned (t':=s.toks) (fun b o hb e=>(sb.2 b hb).trans e) f0 f1 f3 f4 f5
  obtain⟨o,e,c,d⟩:=id st'
  exact⟨u,rfl,Zgb (s:={s with heap:=h'}) e c d (by decide) ⟨x,H,I1,ru,⟨rfl,fun ys hy=>by rw[I.tuple_inj hy hq];exact hx⟩,st',fun b hb=>(hf b hb).1⟩⟩
 done:=by
  intro X hP hw hK hc i pins s σ H E I hf st hg
  subst hP hw hK
  obtain⟨xs,hq,hx⟩:=hg
  obtain⟨its,rv,p,hz⟩:=I.tuple hq
  obtain⟨f0,f1,f2,f3,f4,f5⟩:=hf it (by simp)
  have hl:=rv.length
  exact wpAny_pyNext_tuple_end (I.ok.hd hc) st (show s.heap.IsTuple a its.toArray from p) (by simp;omega) fun h' eb=>⟨rfl,I.turned (t':=s.toks) (fun b o hb e=>eb b o hb e) f0 f1 f3 f4 f5⟩
 self:=fun _ _ _ _ _ st h=>wpAny_pyIter_tupleiter st h
theorem Zdi{P:Program}{w:World}{K:PySem.W.Frag}{tg:Expr}(it:Addr)(lo:Int)(n:Nat):Turn P w K tg (Itr lo n) [it] it (fun i h=>IsRangeIter h it (lo+(i:Nat)*1) ((n:Int)-(i:Nat)) 1)where
 mem:=by simp
 obj:=fun i h st b hb=>by
  have e:b=it:=by simpa using hb
  subst e
  exact⟨_,st,fun v z=>by
   have z':Data.fields _=Data.cell v:=z
   cases z'⟩
 keep:=fun i h h' st k=>k it (by simp) _ st
 item:=by
  intro X hP hw hK hc i pins s σ H E I hf st hg
  subst hP hw hK
  obtain⟨f0,f1,f2,f3,f4,f5⟩:=hf it (by simp)
  have W:=Walks.range (prog:=X.prog) (w:=X.w) (I.ok.hd hc) it lo 1 n
  refine W.item i s _ _ hg st fun v h' tk hv st' kk=>?_
  obtain⟨t,rfl⟩:=hv
  have I1:Inv X pins σ H {s with heap:=h',toks:=tk}:=I.turned (fun b o hb e=>kk b o (by simpa using hb) e) f0 f1 f3 f4 f5
  refine⟨_,rfl,Zgb (s:={s with heap:=h',toks:=tk}) (n:="range_iterator") st' rfl rfl (by decide) ⟨.int (lo+i),H,I1,⟨t,?_⟩,⟨rfl,rfl⟩,st',fun b hb=>(hf b hb).1⟩⟩
  rw[Int.mul_one]
 done:=by
  intro X hP hw hK hc i pins s σ H E I hf st hg
  subst hP hw hK
  obtain⟨f0,f1,f2,f3,f4,f5⟩:=hf it (by simp)
  exact wpAny_pyNext_range_end (I.ok.hd hc) st (by have:n<=i:=hg;omega) fun h' eb=>⟨rfl,I.turned (t':=s.toks) (fun b o hb e=>eb b o hb e) f0 f1 f3 f4 f5⟩
 self:=fun _ _ _ _ _ st h=>wpAny_pyIter_rangeiter st h
section
variable{X:Cx}{tg:Expr}
def ZhD(K:PySem.W.Frag)(tl:TE):TI:=fun σ H R=>tl σ H fun x H1=>∃a,x= .ref a/\(∃xs,SqL K H1 a xs)/\R (Itl K a) H1
def Zkc(K:PySem.W.Frag)(tl:TE):TI:=fun σ H R=>tl σ H fun x H1=>∃a,x= .ref a/\(∃xs,SqT K H1 a xs)/\R (Itt K a) H1
theorem ZaF{l:Expr}{tl:TE}(hl:PE X l tl):PI X tg l (ZhD X.K tl):=by
 intro pins s σ H R I h
 refine thn (hl pins s σ H _ I h) fun v s1⟨x,H1,I1,r1,q1⟩=>?_
 obtain⟨a,e,⟨xs,hq⟩,q⟩:=q1
 subst e
 cases r1
 obtain⟨its,rv,p,hz⟩:=I1.list hq
 refine wpAny_pyIter_list p.isList ?_
 refine⟨s1.heap.objs.size,[s1.heap.objs.size],_,_,H1,rfl,I1.kept (t':=s1.toks) fun b o e=>Heap.get?_push_of_some _ e,Ze1 a _,⟨_,Heap.get?_push_size _ rfl,rfl,rfl⟩,fun b hb=>?_,q⟩
 have e:b=s1.heap.objs.size:=by simpa using hb
 subst e
 exact I1.fpOk (Nat.le_refl _) (I1.hok.fresh (Nat.le_refl _))
theorem Zat{l:Expr}{tl:TE}(hl:PE X l tl):PI X tg l (Zkc X.K tl):=by
 intro pins s σ H R I h
 refine thn (hl pins s σ H _ I h) fun v s1⟨x,H1,I1,r1,q1⟩=>?_
 obtain⟨a,e,⟨xs,hq⟩,q⟩:=q1
 subst e
 cases r1
 obtain⟨its,rv,p,hz⟩:=I1.tuple hq
 refine wpAny_pyIter_tuple (show s1.heap.IsTuple a its.toArray from p) ?_
 refine⟨s1.heap.objs.size,[s1.heap.objs.size],_,_,H1,rfl,I1.kept (t':=s1.toks) fun b o e=>Heap.get?_push_of_some _ e,Zdh a _,⟨_,Heap.get?_push_size _ rfl,rfl,rfl⟩,fun b hb=>?_,q⟩
 have e:b=s1.heap.objs.size:=by simpa using hb
 subst e
 exact I1.fpOk (Nat.le_refl _) (I1.hok.fresh (Nat.le_refl _))
theorem ZcC{pins:List (Addr×Obj)}{σ:St}{H:Hp}{s:Shared}{R:It->Hp->Prop}{E:Value->Shared->Prop}{lo hi:Int}{t u v:Tok}{tk:Nat}(I:Inv X pins σ H s)(h1: -(2^62)<=lo)(h2:lo<2^62)(h3: -(2^62)<=hi)(h4:hi<2^62)
  (q:R (Itr lo (hi-lo).toNat) H):wpAny (model X.prog X.w) X.A (pyIter (.ref s.heap.objs.size)) (PIE X pins σ tg R) E {s with heap:=s.heap.push {cls:= .type "range",data:= .fields #[.int lo t,.int hi u,.int 1 v]},toks:=tk}:=by
 refine wpAny_pyIter_range (IsRange.new ..) (small_one h1 h2 h3 h4) ?_
 have I1:Inv X pins σ H {s with heap:=s.heap.push {cls:= .type "range",data:= .fields #[.int lo t,.int hi u,.int 1 v]},toks:=tk}:=I.kept fun b o e=>Heap.get?_push_of_some _ e
 refine⟨(s.heap.push {cls:= .type "range",data:= .fields #[.int lo t,.int hi u,.int 1 v]}).objs.size,[(s.heap.push {cls:= .type "range",data:= .fields #[.int lo t,.int hi u,.int 1 v]}).objs.size],_,_,H,rfl,
  I1.kept (t':=tk) fun b o e=>Heap.get?_push_of_some _ e,Zdi _ lo (hi-lo).toNat,?_,fun b hb=>?_,q⟩
 ·have e1:lo+((0:Nat):Int)*1=lo:=by simp
  have e2:(((hi-lo).toNat:Nat):Int)-((0:Nat):Int)=Builtin.Range.rangeSize lo hi 1:=by rw[rangeSize_one];split<;>omega
  show IsRangeIter _ _ (lo+((0:Nat):Int)*1) ((((hi-lo).toNat:Nat):Int)-((0:Nat):Int)) 1
  rw[e1,e2]
  exact Heap.get?_push_size _ rfl
 ·have e:b=(s.heap.push {cls:= .type "range",data:= .fields #[.int lo t,.int hi u,.int 1 v]}).objs.size:=by simpa using hb
  subst e
  exact I1.fpOk (Nat.le_refl _) (I1.hok.fresh (Nat.le_refl _))
def ZcR(ta:TA):TI:=fun σ H R=>ta σ H fun vs H1=>∃j:Int,vs=[.int j]/\ -(2^62)<=j/\j<2^62/\R (Itr 0 j.toNat) H1
def Zkd(ta:TA):TI:=fun σ H R=>ta σ H fun vs H1=>∃i j:Int,vs=[.int i,.int j]/\(-(2^62)<=i/\i<2^62/\ -(2^62)<=j/\j<2^62)/\R (Itr i (j-i).toNat) H1
theorem ZM{a:Expr}{ta:TA}{p pos:Pos}(hg:Gl X "range")(hm:X.mg "range"=none)(ha:PA X [a] ta)(hs:starEach [a] X.env=[(false,eval a X.env)]:=by rfl):PI X tg (.Call (.Name "range" p) [a] [] pos) (ZcR ta):=by
 intro pins s σ H R I h
 refine Call_ (Jh I hg hm boot_range (PyProof.Rows.callWith_type1 (thn (ha pos pins s σ H _ I h) fun us s1⟨vs,H1,I1,r1,q1⟩=>?_) hs rfl))
 obtain⟨j,e,q1,q2,q⟩:=q1
 subst e
 cases r1 with
 |cons r rr=>
  cases rr
  obtain⟨t,rfl⟩:=r
  exact call_range_1 (ZcC I1 (by omega) (by omega) q1 q2 (by simpa using q))
theorem ZeA{a b:Expr}{ta:TA}{p pos:Pos}(hg:Gl X "range")(hm:X.mg "range"=none)(ha:PA X [a,b] ta)(hs:starEach [a,b] X.env=[(false,eval a X.env),(false,eval b X.env)]:=by rfl)(hs2:starEach [b] X.env=[(false,eval b X.env)]:=by rfl):
  PI X tg (.Call (.Name "range" p) [a,b] [] pos) (Zkd ta):=by
 intro pins s σ H R I h
 refine Call_ (Jh I hg hm boot_range (PyProof.Rows.callWith_type1 (thn (ha pos pins s σ H _ I h) fun us s1⟨vs,H1,I1,r1,q1⟩=>?_) (by rw[hs,hs2]) (by rw[hs2];rfl)))
 obtain⟨i,j,e,⟨q1,q2,q3,q4⟩,q⟩:=q1
 subst e
 cases r1 with
 |cons r rr=>
  cases rr with
  |cons r' rr=>
   cases rr
   obtain⟨t,rfl⟩:=r
   obtain⟨t',rfl⟩:=r'
   exact call_range_2 (ZcC I1 q1 q2 q3 q4 q)
def ZkL(wi:TI)(g:TG)(tb:TS):TS:=fun D σ H=>wi σ H fun J H1=>∃W:Nat->Nat->St->Hp->Prop,(∃m,W 0 m σ H1)/\∀i m σ H,W i m σ H->
 (J.stop i H/\D.nx σ H)\/(J.go i H/\∃N:St->Hp->Prop,(∀σ' H',N σ' H'->∃m',m'<m/\W (i+1) m' σ' H')/\∀x H',J.yld i H x H'->g x σ H' fun σ2 H2=>tb {D with nx:=N,ct:=N,bk:=D.nx} σ2 H2)
def Yn(fp:List Addr)(h:Heap):List (Addr×Obj):=fp.filterMap fun b=>(h.get? b).map fun o=>(b,o)
theorem Yl{fp:List Addr}{h:Heap}{b:Addr}{o:Obj}(hb:b∈fp)(e:h.get? b=some o):(b,o)∈Yn fp h:=List.mem_filterMap.mpr ⟨b,hb,by rw[e];rfl⟩
theorem J8{fp:List Addr}{h:Heap}{p:Addr×Obj}(hp:p∈Yn fp h):p.1∈fp/\h.get? p.1=some p.2:=by
 obtain⟨b,hb,e⟩:=List.mem_filterMap.mp hp
 cases q:h.get? b with
 |none=>rw[q]at e;cases e
 |some o=>
  rw[q]at e
  have e':(b,o)=p:=Option.some.inj e
  subst e'
  exact⟨hb,q⟩
theorem Inv.pinned{pins:List (Addr×Obj)}{σ:St}{H:Hp}{s:Shared}{fp:List Addr}(I:Inv X pins σ H s)(hf:∀b∈fp,FpOk X pins H b) (ho:∀b∈fp,∃o,s.heap.get? b=some o/\∀v,o.data≠.cell v):Inv X (pins++Yn fp s.heap) σ H s:=
 I.pins_of fun p hp=>(List.mem_append.mp hp).elim (fun z=>I.pin p (List.mem_append_right _ z)) fun z=>by
  obtain⟨hb,e⟩:=J8 z
  obtain⟨f0,f1,f2,_⟩:=hf p.1 hb
  obtain⟨o,e',d⟩:=ho p.1 hb
  rw[e]at e';cases e'
  exact⟨e,f0,f1,f2,d⟩
theorem Inv.unpinned{pins pl:List (Addr×Obj)}{σ:St}{H:Hp}{s:Shared}(I:Inv X (pins++pl) σ H s):Inv X pins σ H s:=I.pins_of fun p hp=>I.pin p (List.mem_append_right _ (List.mem_append_left _ hp))
theorem ZZ{iter:Expr}{body:List Stmt}{wi:TI}{g:TG}{tb:TS}{pos:Pos}(hp:PassesOwn (model X.prog X.w) X.A X.env X.xe)(hc:X.calm=true)(hi:PI X tg iter wi)(hg:PG X tg g)(hb:PSs X body tb)
  (hs:∀x,foldedSetIterable iter X.env x=pure x:=by intro _;rfl):PS X (.For tg iter body [] pos) (ZkL wi g tb):=by
 intro pins s σ H D I h
 refine wpAny_For (thn (hi pins s σ H _ I h) fun v s1 h1=>thn h1 fun itv s2 h2=>?_) hs
 obtain⟨it,fp,tn,J,H2,e,I2,T,st2,f2,W,⟨m0,w0⟩,turn⟩:=h2
 subst e
 have stat:∀{H':Hp},(∀b∈fp,H' b=none)->∀b∈fp,FpOk X pins H' b:=fun hn b hb=>⟨hn b hb,(f2 b hb).2⟩
 refine codeAny_forLoop_any (fun n s'=>∃i σ' H',Inv X pins σ' H' s'/\tn i s'.heap/\(∀b∈fp,H' b=none)/\W i n σ' H') ?_ m0 ⟨0,σ,H2,I2,st2,fun b hb=>(f2 b hb).1,w0⟩
 rintro n s3 ⟨i,σ3,H3,I3,st3,fr3,w3⟩
 rcases turn i n σ3 H3 w3 with⟨stop,qn⟩|⟨go,N,hN,step⟩
 ·refine wpAny_passesOwn hp (thn (T.done X rfl rfl rfl hc i pins s3 σ3 H3 X.xe I3 (stat fr3) st3 stop) fun r s4⟨hr,I4⟩=>?_)
  subst hr
  exact wpAny_execs_nil ⟨σ3,H3,I4,qn⟩
 ·refine wpAny_passesOwn hp (thn (T.item X rfl rfl rfl hc i pins s3 σ3 H3 X.xe I3 (stat fr3) st3 go) fun r s4⟨u,hr,h4⟩=>?_)
  subst hr
  refine wpAny_passesOwn hp (thn h4 fun _ s5⟨x,H5,I5,r5,y5,st5,fr5⟩=>?_)
  have I5':=I5.pinned (stat fr5) (T.obj _ _ st5)
  refine wpAny_passesOwn hp (thn (hg _ s5 σ3 H5 x u _ I5' r5 (step x H5 y5)) fun _ s6⟨σ6,H6,I6,q6⟩=>?_)
  refine wpAny_passesOwn hp (thn (hb _ s6 σ6 H6 _ I6 q6) fun f s7 q7=>?_)
  have again:∀{σ7:St}{H7:Hp},Inv X (pins++Yn fp s5.heap) σ7 H7 s7->N σ7 H7->∃m,m<n/\∃i σ' H',Inv X pins σ' H' s7/\tn i s7.heap/\(∀b∈fp,H' b=none)/\W i m σ' H':=fun{σ7 H7} I7 n7=>by
   obtain⟨m',hm,w7⟩:=hN σ7 H7 n7
   refine⟨m',hm,i+1,σ7,H7,I7.unpinned,T.keep _ _ _ st5 fun b hb o e=>(I7.pin (b,o) (List.mem_append_right _ (List.mem_append_right _ (Yl hb e)))).1,fun b hb=>?_,w7⟩
   obtain⟨o,e,d⟩:=T.obj _ _ st5 b hb
   exact(I7.pin (b,o) (List.mem_append_right _ (List.mem_append_right _ (Yl hb e)))).2.1
  cases f with
  |next=>obtain⟨σ7,H7,I7,n7⟩:=q7;exact again I7 n7
  |cont=>obtain⟨σ7,H7,I7,n7⟩:=q7;exact again I7 n7
  |brk=>obtain⟨σ7,H7,I7,q7⟩:=q7;exact⟨σ7,H7,I7.unpinned,q7⟩
  |ret v=>obtain⟨x7,σ7,H7,I7,r7,q7⟩:=q7;exact⟨x7,σ7,H7,I7.unpinned,r7,q7⟩
end
theorem Zbr{K:PySem.W.Frag}{a:Addr}{xs:List V}{g:TG}{tb:TS}{D:Ends}{σ:St}{H:Hp}(Pv:Nat->St->Hp->Prop)(h0:Pv 0 σ H)(hl:∀i σ H,i<=xs.length->Pv i σ H->SqL K H a xs)
  (hs:∀i x σ H,xs[i]?=some x->Pv i σ H->g x σ H fun σ2 H2=>tb {D with nx:=Pv (i+1),ct:=Pv (i+1),bk:=D.nx} σ2 H2) (hd:∀σ H,Pv xs.length σ H->D.nx σ H):
  ∃W:Nat->Nat->St->Hp->Prop,(∃m,W 0 m σ H)/\∀i m σ H,W i m σ H->
   ((Itl K a).stop i H/\D.nx σ H)\/((Itl K a).go i H/\∃N:St->Hp->Prop,(∀σ' H',N σ' H'->∃m',m'<m/\W (i+1) m' σ' H')/\∀x H',(Itl K a).yld i H x H'->g x σ H' fun σ2 H2=>tb {D with nx:=N,ct:=N,bk:=D.nx} σ2 H2):=by
 refine⟨fun i m σ H=>m=xs.length-i/\i<=xs.length/\Pv i σ H,⟨xs.length,by simp,Nat.zero_le _,h0⟩,?_⟩
 rintro i m σ H ⟨rfl,hi,p⟩
 have q:=hl i σ H hi p
 by_cases hlt:i<xs.length
 ·refine .inr ⟨⟨xs,xs[i],q,by simp[hlt]⟩,Pv (i+1),fun σ' H' p'=>⟨xs.length-(i+1),by omega,rfl,hlt,p'⟩,fun x H' y=>?_⟩
  obtain⟨e,y⟩:=y
  subst e
  exact hs i x σ _ (y xs q) p
 ·have e:i=xs.length:=by omega
  subst e
  exact .inl ⟨⟨xs,q,Nat.le_refl _⟩,hd σ H p⟩
theorem Zad{K:PySem.W.Frag}{a:Addr}{xs:List V}{g:TG}{tb:TS}{D:Ends}{σ:St}{H:Hp}(Pv:Nat->St->Hp->Prop)(h0:Pv 0 σ H)(hl:∀i σ H,i<=xs.length->Pv i σ H->SqT K H a xs)
  (hs:∀i x σ H,xs[i]?=some x->Pv i σ H->g x σ H fun σ2 H2=>tb {D with nx:=Pv (i+1),ct:=Pv (i+1),bk:=D.nx} σ2 H2) (hd:∀σ H,Pv xs.length σ H->D.nx σ H):
  ∃W:Nat->Nat->St->Hp->Prop,(∃m,W 0 m σ H)/\∀i m σ H,W i m σ H->
   ((Itt K a).stop i H/\D.nx σ H)\/((Itt K a).go i H/\∃N:St->Hp->Prop,(∀σ' H',N σ' H'->∃m',m'<m/\W (i+1) m' σ' H')/\∀x H',(Itt K a).yld i H x H'->g x σ H' fun σ2 H2=>tb {D with nx:=N,ct:=N,bk:=D.nx} σ2 H2):=by
 refine⟨fun i m σ H=>m=xs.length-i/\i<=xs.length/\Pv i σ H,⟨xs.length,by simp,Nat.zero_le _,h0⟩,?_⟩
 rintro i m σ H ⟨rfl,hi,p⟩
 have q:=hl i σ H hi p
 by_cases hlt:i<xs.length
 ·refine .inr ⟨⟨xs,xs[i],q,by simp[hlt]⟩,Pv (i+1),fun σ' H' p'=>⟨xs.length-(i+1),by omega,rfl,hlt,p'⟩,fun x H' y=>?_⟩
  obtain⟨e,y⟩:=y
  subst e
  exact hs i x σ _ (y xs q) p
 ·have e:i=xs.length:=by omega
  subst e
  exact .inl ⟨⟨xs,q,Nat.le_refl _⟩,hd σ H p⟩
theorem ZT{lo:Int}{n:Nat}{g:TG}{tb:TS}{D:Ends}{σ:St}{H:Hp}(Pv:Nat->St->Hp->Prop)(h0:Pv 0 σ H)
  (hs:∀i σ H,i<n->Pv i σ H->g (.int (lo+i)) σ H fun σ2 H2=>tb {D with nx:=Pv (i+1),ct:=Pv (i+1),bk:=D.nx} σ2 H2) (hd:∀σ H,Pv n σ H->D.nx σ H):
  ∃W:Nat->Nat->St->Hp->Prop,(∃m,W 0 m σ H)/\∀i m σ H,W i m σ H->
   ((Itr lo n).stop i H/\D.nx σ H)\/((Itr lo n).go i H/\∃N:St->Hp->Prop,(∀σ' H',N σ' H'->∃m',m'<m/\W (i+1) m' σ' H')/\∀x H',(Itr lo n).yld i H x H'->g x σ H' fun σ2 H2=>tb {D with nx:=N,ct:=N,bk:=D.nx} σ2 H2):=by
 refine⟨fun i m σ H=>m=n-i/\i<=n/\Pv i σ H,⟨n,by simp,Nat.zero_le _,h0⟩,?_⟩
 rintro i m σ H ⟨rfl,hi,p⟩
 by_cases hlt:i<n
 ·refine .inr ⟨hlt,Pv (i+1),fun σ' H' p'=>⟨n-(i+1),by omega,rfl,hlt,p'⟩,fun x H' y=>?_⟩
  obtain⟨e,y⟩:=y
  subst e y
  exact hs i σ _ hlt p
 ·have e:i=n:=by omega
  subst e
  exact .inl ⟨Nat.le_refl _,hd σ H p⟩
abbrev R2:=V->V->Hp->VK->Prop
def OpR(X:Cx)(f:Value->Value->Sem Value)(r:R2):Prop:=
 ∀(pins:List (Addr×Obj))(s:Shared)(σ:St)(H:Hp)(x y:V)(v u:Value)(Q:VK),Inv X pins σ H s->RelV x v->RelV y u->r x y H Q->
  wpAny (model X.prog X.w) X.A (f v u) (EP X pins σ Q) X.xe s
def CallR(X:Cx)(f:Value)(r:List V->Hp->VK->Prop):Prop:=
 ∀(pins:List (Addr×Obj))(s:Shared)(σ:St)(H:Hp)(xs:List V)(us:List Value)(Q:VK),Inv X pins σ H s->Vals xs us->r xs H Q->
  wpAny (model X.prog X.w) X.A (call f us) (EP X pins σ Q) X.xe s
def ZlB(X:Cx)(r:V->Hp->(Bool->Hp->Prop)->Prop):Prop:=
 ∀(pins:List (Addr×Obj))(s:Shared)(σ:St)(H:Hp)(x:V)(v:Value)(Q:Bool->Hp->Prop),Inv X pins σ H s->RelV x v->r x H Q->
  wpAny (model X.prog X.w) X.A (truthy v) (TP X pins σ Q) X.xe s
def tOp(r:R2)(ta tb:TE):TE:=fun σ H Q=>ta σ H fun x H1=>tb σ H1 fun y H2=>r x y H2 Q
def rI(C:Int->Int->Prop)(g:Int->Int->V):R2:=fun x y H Q=>∃i j,x= .int i/\y= .int j/\C i j/\Q (g i j) H
def rI0(g:Int->Int->V):R2:=fun x y H Q=>∃i j,x= .int i/\y= .int j/\Q (g i j) H
section
variable{X:Cx}{a b c:Expr}{ta tb tc:TE}{pos:Pos}
theorem ZiN(ha:PE X a ta)(hb:PE X b tb){pins:List (Addr×Obj)}{s:Shared}{σ:St}{H:Hp}{R:V->V->Hp->Prop}(I:Inv X pins σ H s)
  (h:ta σ H fun x H1=>tb σ H1 fun y H2=>R x y H2) {Q:Value->Shared->Prop} {f:Value->Value->Sem Value}
  (hf:∀v u s2 x y H2,Inv X pins σ H2 s2->RelV x v->RelV y u->R x y H2->wpAny (model X.prog X.w) X.A (f v u) Q X.xe s2):
  wpAny (model X.prog X.w) X.A (eval a X.env) (fun v s₁=>wpAny (model X.prog X.w) X.A (eval b X.env) (fun u s₂=>wpAny (model X.prog X.w) X.A (f v u) Q X.xe s₂) X.xe s₁) X.xe s:=by
 refine thn (ha pins s σ H _ I h) fun v s1⟨x,H1,I1,r1,q1⟩=>?_
 refine thn (hb pins s1 σ H1 _ I1 q1) fun u s2⟨y,H2,I2,r2,q2⟩=>?_
 exact hf v u s2 x y H2 I2 r1 r2 q2
theorem Zq{op:Operator}{r:R2}(ho:OpR X (binaryOp op) r)(ha:PE X a ta)(hb:PE X b tb):PE X (.BinOp a op b pos) (tOp r ta tb):=by
 intro pins s σ H Q I h
 exact wpAny_BinOp (ZiN ha hb I h fun v u s2 x y H2 I2 rx ry q=>ho pins s2 σ H2 x y v u Q I2 rx ry q)
theorem opI{f:Value->Value->Sem Value}{C:Int->Int->Prop}{g:Int->Int->Int}
  (rule:∀(i j:Int)(t u:Tok)(s:Shared)(Q:Value->Shared->Prop)(E:Value->Shared->Prop),C i j->Q (.int (g i j) s.toks) {s with toks:=s.toks+1}->wpAny (model X.prog X.w) X.A (f (.int i t) (.int j u)) Q E s):
  OpR X f (rI C fun i j=> .int (g i j)):=by
 intro pins s σ H x y v u Q I rx ry h
 obtain⟨i,j,rfl,rfl,hc,q⟩:=h
 obtain⟨t,rfl⟩:=rx
 obtain⟨t',rfl⟩:=ry
 exact rule i j t t' s _ _ hc ⟨.int (g i j),H,I.tok _,⟨_,rfl⟩,q⟩
theorem Zjv{f:Value->Value->Sem Value}{g:Int->Int->Int}
  (rule:∀(i j:Int)(t u:Tok)(s:Shared)(Q:Value->Shared->Prop)(E:Value->Shared->Prop),Q (.int (g i j) s.toks) {s with toks:=s.toks+1}->wpAny (model X.prog X.w) X.A (f (.int i t) (.int j u)) Q E s):
  OpR X f (rI0 fun i j=> .int (g i j)):=by
 intro pins s σ H x y v u Q I rx ry h
 obtain⟨i,j,rfl,rfl,q⟩:=h
 obtain⟨t,rfl⟩:=rx
 obtain⟨t',rfl⟩:=ry
 exact rule i j t t' s _ _ ⟨.int (g i j),H,I.tok _,⟨_,rfl⟩,q⟩
theorem Zir{f:Value->Value->Sem Value}{g:Int->Int->Bool}
  (rule:∀(i j:Int)(t u:Tok)(s:Shared)(Q:Value->Shared->Prop)(E:Value->Shared->Prop),Q (.bool (g i j)) s->wpAny (model X.prog X.w) X.A (f (.int i t) (.int j u)) Q E s):
  OpR X f (rI0 fun i j=> .bl (g i j)):=by
 intro pins s σ H x y v u Q I rx ry h
 obtain⟨i,j,rfl,rfl,q⟩:=h
 obtain⟨t,rfl⟩:=rx
 obtain⟨t',rfl⟩:=ry
 exact rule i j t t' s _ _ ⟨.bl (g i j),H,I,rfl,q⟩
def ZlE(i j:Int):Prop:=0<j/\j<1073741824
def CMul(i j:Int):Prop:=(-(2^64)<i/\i<2^64)\/(-(2^64)<j/\j<2^64)
theorem CMul.ok{i j:Int}(h:CMul i j):IntMulOk i j:=by
 rcases h with⟨h1,h2⟩|⟨h1,h2⟩
 ·exact .of_left (intBits_le_64 h1 h2)
 ·exact .of_right (intBits_le_64 h1 h2)
theorem ZE:OpR X (binaryOp .Add) (rI0 fun i j=> .int (i+j)):=Zjv fun _ _ _ _ _ _ _ q=>add_int q
theorem Jd:OpR X (binaryOp .Sub) (rI0 fun i j=> .int (i-j)):=Zjv fun _ _ _ _ _ _ _ q=>sub_int q
theorem JL:OpR X (binaryOp .Mult) (rI CMul fun i j=> .int (i*j)):=opI fun _ _ _ _ _ _ _ hc q=>mul_int q hc.ok
theorem YG:OpR X (binaryOp .FloorDiv) (rI ZlE fun i j=> .int (i/j)):=opI fun i j _ _ _ _ _ hc q=>by
 have h1:(0:Int)<j:=hc.1
 have h2:j<1073741824:=hc.2
 exact floordiv_int (by omega) (by rw[Int.fdiv_eq_ediv_of_nonneg i (by omega)];exact q) (.inl (PyProof.noPylong_small (by omega)))
theorem ZC:OpR X (binaryOp .Mod) (rI (fun _ j=>0<j) fun i j=> .int (i%j)):=opI fun i j _ _ _ _ _ hc q=>by
 have h1:(0:Int)<j:=hc
 exact mod_int' (by omega) (by rw[Int.fmod_eq_emod_of_nonneg i (by omega)];exact q)
end
def Zjg:V->V->Bool
 | .non,.non=>true| .non,.int _=>true| .int _,.non=>true| .non,.bl _=>true| .bl _,.non=>true| .non,.str _=>true| .str _,.non=>true
 | .int _,.int _=>true| .bl _,.bl _=>true| .str _,.str _=>true| .byt _,.byt _=>true
 | .int _,.str _=>true| .str _,.int _=>true| .bl _,.str _=>true| .str _,.bl _=>true
 |_,_=>false
def rEq:R2:=fun x y H Q=>Zjg x y=true/\Q (.bl (decide (x=y))) H
def rNe:R2:=fun x y H Q=>Zjg x y=true/\Q (.bl (!decide (x=y))) H
theorem Zeq{i j:Int}:decide (V.int i=V.int j)=(i==j):=by
 rw[Bool.eq_iff_iff]
 simp
theorem Zgi{i j:Bool}:decide (V.bl i=V.bl j)=(i==j):=by
 rw[Bool.eq_iff_iff]
 simp
theorem Zep{i j:Str}:decide (V.str i=V.str j)=(i==j):=by
 rw[Bool.eq_iff_iff]
 simp
theorem Zer{i j:Array UInt8}:decide (V.byt i=V.byt j)=(i.toList==j.toList):=by
 rw[Bool.eq_iff_iff]
 cases i
 cases j
 simp
section
variable{X:Cx}{a b c:Expr}{ta tb tc:TE}{pos:Pos}
theorem ZB{pins:List (Addr×Obj)}{σ:St}{H:Hp}{s:Shared}{Q:VK}{k k':Bool}(I:Inv X pins σ H s)(q:Q (.bl k) H)(e:k=k'):EP X pins σ Q (.bool k') s:=by
 subst e
 exact⟨.bl k,H,I,rfl,q⟩
theorem ZR:OpR X (compareOp .Eq) rEq:=by
 intro pins s σ H x y v u Q I rx ry h
 obtain⟨hs,q⟩:=h
 cases x with
 |non=>
  cases rx
  cases y with
  |non=>cases ry;exact PySem.EqNone.eq_none_none (ZB I q (by simp))
  |bl j=>cases ry;exact PySem.EqNone.eq_none_bool (ZB I q (by simp))
  |int j=>obtain⟨t',rfl⟩:=ry;exact PySem.EqNone.eq_none_int (ZB I q (by simp))
  |str j=>obtain⟨t',rfl⟩:=ry;exact PySem.EqNone.eq_none_str (ZB I q (by simp))
  |_=>exact absurd (show false=true from hs) Bool.false_ne_true
 |bl i=>
  cases rx
  cases y with
  |non=>cases ry;exact PySem.EqNone.eq_bool_none (ZB I q (by simp))
  |bl j=>cases ry;exact eq_bool (ZB I q Zgi)
  |str j=>obtain⟨t',rfl⟩:=ry;exact PySem.EqMixed.eq_bool_str (ZB I q (by simp))
  |_=>exact absurd (show false=true from hs) Bool.false_ne_true
 |int i=>
  obtain⟨t,rfl⟩:=rx
  cases y with
  |non=>cases ry;exact PySem.EqNone.eq_int_none (ZB I q (by simp))
  |int j=>obtain⟨t',rfl⟩:=ry;exact eq_int (ZB I q Zeq)
  |str j=>obtain⟨t',rfl⟩:=ry;exact PySem.EqMixed.eq_int_str (ZB I q (by simp))
  |_=>exact absurd (show false=true from hs) Bool.false_ne_true
 |str i=>
  obtain⟨t,rfl⟩:=rx
  cases y with
  |non=>cases ry;exact PySem.EqNone.eq_str_none (ZB I q (by simp))
  |bl j=>cases ry;exact PySem.EqMixed.eq_str_bool (ZB I q (by simp))
  |int j=>obtain⟨t',rfl⟩:=ry;exact PySem.EqMixed.eq_str_int (ZB I q (by simp))
  |str j=>obtain⟨t',rfl⟩:=ry;exact eq_str (ZB I q Zep)
  |_=>exact absurd (show false=true from hs) Bool.false_ne_true
 |byt i=>
  obtain⟨t,rfl⟩:=rx
  cases y with
  |byt j=>obtain⟨t',rfl⟩:=ry;exact PySem.W.eq_bytes (ZB I q Zer)
  |_=>exact absurd (show false=true from hs) Bool.false_ne_true
 |_=>cases y<;>exact absurd (show false=true from hs) Bool.false_ne_true
theorem YI:OpR X (compareOp .NotEq) rNe:=by
 intro pins s σ H x y v u Q I rx ry h
 obtain⟨hs,q⟩:=h
 cases x with
 |non=>
  cases rx
  cases y with
  |non=>cases ry;exact PySem.EqNone.ne_none_none (ZB I q (by simp))
  |bl j=>cases ry;exact PySem.EqNone.ne_none_bool (ZB I q (by simp))
  |int j=>obtain⟨t',rfl⟩:=ry;exact PySem.EqNone.ne_none_int (ZB I q (by simp))
  |str j=>obtain⟨t',rfl⟩:=ry;exact PySem.EqNone.ne_none_str (ZB I q (by simp))
  |_=>exact absurd (show false=true from hs) Bool.false_ne_true
 |bl i=>
  cases rx
  cases y with
  |non=>cases ry;exact PySem.EqNone.ne_bool_none (ZB I q (by simp))
  |bl j=>cases ry;exact ne_bool (ZB I q (congrArg not Zgi))
  |str j=>obtain⟨t',rfl⟩:=ry;exact PySem.EqMixed.ne_bool_str (ZB I q (by simp))
  |_=>exact absurd (show false=true from hs) Bool.false_ne_true
 |int i=>
  obtain⟨t,rfl⟩:=rx
  cases y with
  |non=>cases ry;exact PySem.EqNone.ne_int_none (ZB I q (by simp))
  |int j=>obtain⟨t',rfl⟩:=ry;exact ne_int (ZB I q (congrArg not Zeq))
  |str j=>obtain⟨t',rfl⟩:=ry;exact PySem.EqMixed.ne_int_str (ZB I q (by simp))
  |_=>exact absurd (show false=true from hs) Bool.false_ne_true
 |str i=>
  obtain⟨t,rfl⟩:=rx
  cases y with
  |non=>cases ry;exact PySem.EqNone.ne_str_none (ZB I q (by simp))
  |bl j=>cases ry;exact PySem.EqMixed.ne_str_bool (ZB I q (by simp))
  |int j=>obtain⟨t',rfl⟩:=ry;exact PySem.EqMixed.ne_str_int (ZB I q (by simp))
  |str j=>obtain⟨t',rfl⟩:=ry;exact ne_str (ZB I q (congrArg not Zep))
  |_=>exact absurd (show false=true from hs) Bool.false_ne_true
 |byt i=>
  obtain⟨t,rfl⟩:=rx
  cases y with
  |byt j=>obtain⟨t',rfl⟩:=ry;exact PySem.W.ne_bytes (ZB I q (congrArg not Zer))
  |_=>exact absurd (show false=true from hs) Bool.false_ne_true
 |_=>cases y<;>exact absurd (show false=true from hs) Bool.false_ne_true
theorem Zbc:OpR X (compareOp .Lt) (rI0 fun i j=> .bl (decide (i<j))):=Zir fun _ _ _ _ _ _ _ q=>lt_int q
theorem Za6:OpR X (compareOp .Gt) (rI0 fun i j=> .bl (decide (j<i))):=Zir fun _ _ _ _ _ _ _ q=>gt_int q
theorem ZfC:OpR X (compareOp .GtE) (rI0 fun i j=> .bl (decide (j<=i))):=Zir fun _ _ _ _ _ _ _ q=>ge_int q
theorem JM:OpR X (compareOp .Is) (fun x y H Q=>y= .non/\Q (.bl (decide (x= .non))) H):=by
 intro pins s σ H x y v u Q I rx ry h
 obtain⟨rfl,q⟩:=h
 cases ry
 refine is_none_gen (ZB I q ?_)
 cases x<;>first
  |(cases rx;rfl)
  |(obtain⟨t,rfl⟩:=rx;rfl)
theorem Zp(b:Expr){op:CmpOp}(h:op≠.In:=by decide)(h2:op≠.NotIn:=by decide):behindInMarks op b=false:=by
 have e1:(op==CmpOp.In)=false:=by cases op<;>first|rfl|exact absurd rfl h
 have e2:(op==CmpOp.NotIn)=false:=by cases op<;>first|rfl|exact absurd rfl h2
 cases b<;>simp[behindInMarks,e1,e2]
theorem Ym{op:CmpOp}{r:R2}(ho:OpR X (compareOp op) r)(ha:PE X a ta)(hb:PE X b tb)(hm:behindInMarks op b=false):PE X (.Compare a [op] [b] pos) (tOp r ta tb):=by
 intro pins s σ H Q I h
 exact wpAny_Compare1 (ZiN ha hb I h fun v u s2 x y H2 I2 rx ry q=>ho pins s2 σ H2 x y v u Q I2 rx ry q) hm
def Zfj(t:TE):TT:=fun σ H Q=>t σ H fun x H'=>∃k,x= .bl k/\Q k H'
theorem Zi{op:CmpOp}{r:R2}(ho:OpR X (compareOp op) r)(ha:PE X a ta)(hb:PE X b tb)(hm:behindInMarks op b=false):PT X (.Compare a [op] [b] pos) (Zfj (tOp r ta tb)):=by
 intro pins s σ H Q I h
 refine wpAny_isTrue_Compare1 (thn (ha pins s σ H _ I h) fun v s1⟨x,H1,I1,r1,q1⟩=>thn (hb pins s1 σ H1 _ I1 q1) fun u s2⟨y,H2,I2,r2,q2⟩=>
  thn (ho pins s2 σ H2 x y v u _ I2 r1 r2 q2) fun c s3⟨z,H3,I3,r3,k,e,q3⟩=>?_) hm
 subst e
 cases r3
 exact wpAny_truthy_bool ⟨H3,I3,q3⟩
def Zk8(K:PySem.W.Frag)(x:V)(H:Hp)(k:Bool):Prop:=
 match x with
 | .non=>k=false
 | .bl b=>k=b
 | .int i=>k=(i !=0)
 | .str y=>y.length<=sizeLine/\k=((y.length:Int) !=0)
 | .byt y=>y.size<=sizeLine/\k=((y.size:Int) !=0)
 | .ref p=>(∃xs,SqL K H p xs/\k= !xs.isEmpty)\/(∃xs,SqT K H p xs/\k= !xs.isEmpty)\/∃kvs,H p=some (.dK kvs)/\k= !kvs.isEmpty
 |_=>False
theorem ZdD{κ:Type}{kvs:List (κ×V)}{vs:List (κ×Value)}(r:KV kvs vs):(!vs.isEmpty)= !kvs.isEmpty:=by
 cases r<;>rfl
theorem Zbm{xs:List V}{its:List Value}(r:Vals xs its):(!its.toArray.isEmpty)= !xs.isEmpty:=by
 cases r<;>simp
theorem Zay:(sizeLine:Nat)<2^63:=by rw[sizeLine_eq];decide
theorem ZhM:ZlB X (fun x H Q=>∃k,Zk8 X.K x H k/\Q k H):=by
 intro pins s σ H x v Q I rx h
 obtain⟨k,e,q⟩:=h
 have hl:=Zay
 have hs:sizeLine=16777216:=sizeLine_eq
 cases x with
 |non=>
  cases rx
  have e':k=false:=e
  subst e'
  exact truthy_none ⟨H,I,q⟩
 |bl b=>
  cases rx
  have e':k=b:=e
  subst e'
  exact wpAny_truthy_bool ⟨H,I,q⟩
 |int i=>
  obtain⟨t,rfl⟩:=rx
  have e':k=(i !=0):=e
  subst e'
  exact PySem.P.truthy_int ⟨H,I,q⟩
 |str y=>
  obtain⟨t,rfl⟩:=rx
  obtain⟨hy,e'⟩:y.length<=sizeLine/\k=((y.length:Int) !=0):=e
  subst e'
  exact PySem.P.truthy_str (by omega) ⟨H,I.tok _,q⟩
 |byt y=>
  obtain⟨t,rfl⟩:=rx
  obtain⟨hy,e'⟩:y.size<=sizeLine/\k=((y.size:Int) !=0):=e
  subst e'
  exact PySem.W.truthy_bytes (by omega) ⟨H,I.tok _,q⟩
 |ref p=>
  cases rx
  have e':(∃xs,SqL X.K H p xs/\k= !xs.isEmpty)\/(∃xs,SqT X.K H p xs/\k= !xs.isEmpty)\/∃kvs,H p=some (.dK kvs)/\k= !kvs.isEmpty:=e
  rcases e' with⟨xs,hx,e'⟩|⟨xs,hx,e'⟩|⟨kvs,hx,e'⟩
  ·subst e'
   obtain⟨its,r,pl,hz⟩:=I.list hx
   have hlen:=r.length
   exact wpAny_truthy_list pl.isList (by simp only[List.size_toArray];omega) ⟨H,I.tok _,by rw[Zbm r];exact q⟩
  ·subst e'
   obtain⟨its,r,pl,hz⟩:=I.tuple hx
   have hlen:=r.length
   exact truthy_tuple pl (by simp only[List.size_toArray];omega) ⟨H,I.tok _,by rw[Zbm r];exact q⟩
  ·subst e'
   obtain⟨hz,hS,vs,r,m⟩:kvs.length<=sizeLine/\(p==sysModules)=false/\∃vs,KV kvs vs/\s.heap.DictOf (Z6 X.prog X.w) p vs:=I.hok p _ hx
   have hlen:kvs.length=vs.length:=Paired.length r
   exact wpAny_truthy_dict hS m (by omega) ⟨H,I.tok _,by rw[ZdD r];exact q⟩
 |_=>exact(show False from e).elim
theorem ZaZ(ha:PE X a ta)(he:∀whole,isTrue a X.env whole=(do let v<-whole;standAt a.pos;holding [v] (truthy v))):
  PT X a (fun σ H Q=>ta σ H fun x H'=>∃k,Zk8 X.K x H' k/\Q k H'):=by
 intro pins s σ H Q I h
 exact isTrue_plain (thn (ha pins s σ H _ I h) fun v s1⟨x,H1,I1,r1,q1⟩=>ZhM pins s1 σ H1 x v Q I1 r1 q1) (he _)
theorem vals1{x:V}{us:List Value}(r:Vals [x] us):∃u,us=[u]/\RelV x u:=by
 cases r with
 |cons r1 r2=>cases r2;exact⟨_,rfl,r1⟩
theorem vals2{x y:V}{us:List Value}(r:Vals [x,y] us):∃u w',us=[u,w']/\RelV x u/\RelV y w':=by
 cases r with
 |cons r1 r2=>
  cases r2 with
  |cons r3 r4=>cases r4;exact⟨_,_,rfl,r1,r3⟩
theorem ZeV(hc:X.calm=true):CallR X (.builtin "max") (fun xs H Q=>∃i j,xs=[.int i,.int j]/\Q (.int (if j>i then j else i)) H):=by
 intro pins s σ H xs us Q I r h
 obtain⟨i,j,rfl,q⟩:=h
 obtain⟨u,w',rfl,⟨t,rfl⟩,⟨t',rfl⟩⟩:=vals2 r
 refine max_two_ints (I.ok.hd hc) fun h' tk k=>⟨_,H,I.kept k,?_,q⟩
 by_cases hj:j>i
 ·rw[if_pos hj,if_pos hj];exact⟨_,rfl⟩
 ·rw[if_neg hj,if_neg hj];exact⟨_,rfl⟩
theorem ZeY:CallR X (.type "int") (fun xs H Q=>(∃i,xs=[.int i]/\Q (.int i) H)\/∃k,xs=[.bl k]/\Q (.int (if k then 1 else 0)) H):=by
 intro pins s σ H xs us Q I r h
 rcases h with⟨i,rfl,q⟩|⟨k,rfl,q⟩
 ·obtain⟨u,rfl,t,rfl⟩:=vals1 r
  exact call_int_int ⟨.int i,H,I,⟨_,rfl⟩,q⟩
 ·obtain⟨u,rfl,r1⟩:=vals1 r
  cases r1
  exact call_int_bool ⟨.int (if k then 1 else 0),H,I.tok _,⟨_,rfl⟩,q⟩
end
structure ObjM(h:Heap)(x dx C:Addr)(mA:Str->Option Value):Prop where
 obj:h.get? x=some (PySem.W.instObj C dx)
 ns:h.Ns1 dx mA
 ne:dx≠x
theorem ZbI{h:Heap}{dx:Addr}{mA:Str->Option Value}(n:h.Ns1 dx mA):∃od,h.get? dx=some od/\∀name,PySem.W.lookIn name od=some (mA name):=by
 obtain⟨o,es,ep,ho,hd,hk,_,hm⟩:=n
 refine⟨o,ho,fun name=>?_⟩
 have e:=hm name
 unfold nsFind findBy at e
 rw[<-Array.find?_toList]at e
 unfold PySem.W.lookIn
 rw[hd]
 dsimp only
 split
 ·rename_i y q
  rw[q]at e
  exact congrArg some e
 ·rename_i q
  rw[q]at e
  have a:es.toList.any (·.refKey)=false:=by
   rw[List.any_eq_false]
   intro y hy
   obtain⟨z,t,hkey⟩:=hk y (Array.mem_toList_iff.mp hy)
   simp[DictEntry.refKey,hkey]
  have a':¬es.toList.any (·.refKey)=true:=by rw[a];exact Bool.false_ne_true
  rw[if_neg a']
  exact congrArg some e
theorem ObjM.look{h:Heap}{x dx C:Addr}{mA:Str->Option Value}(I:ObjM h x dx C mA):∃od,PySem.W.InstAt h x (PySem.W.instObj C dx) C (some od)/\∀name,PySem.W.lookIn name od=some (mA name):=
 let⟨od,ho,hl⟩:=ZbI I.ns
 ⟨od,⟨I.obj,rfl,rfl,ho⟩,hl⟩
section
variable{prog:Program}{w:World}{A:Around}{E:Value->Shared->Prop}{s:Shared}{K:PySem.W.Frag}{x dx C f:Addr}{mA:Str->Option Value}{name:Str}{v:Value}
theorem get_map{expr:Bool}{Q:Value->Shared->Prop}(X:K.In s.heap)(I:ObjM s.heap x dx C mA)(hg:PySem.W.plainGet K C name=true)(hh:PySem.W.hasDictIn K C=true)
  (ha:PySem.W.findIn K (.ref C) name=some none)(hv:mA name=some v)(hv':PySem.W.handedIn v=true)(h:Q v {s with toks:=s.toks+1}):
  wpAny (model prog w) A (getAttr (.ref x) name expr) Q E s:=by
 obtain⟨od,J,hl⟩:=I.look
 exact PySem.W.get_value X J (PySem.W.plainGet_of hg).1 (PySem.W.findObj_own hh ha rfl (by rw[hl,hv])) hv' h
theorem Zgc{pl:Sem Bool}{Q:Value×List Value->Shared->Prop}(X:K.In s.heap)(I:ObjM s.heap x dx C mA)(hg:PySem.W.plainGet K C name=true)
  (hf:PySem.W.findIn K (.ref C) name=some (some (.ref f)))(ht:PySem.W.isFn K (.ref f)=true)(hv:mA name=none)(h:Q (.ref f,[.ref x]) s):
  wpAny (model prog w) A (getMethod (.ref x) name pl) Q E s:=by
 obtain⟨od,J,hl⟩:=I.look
 exact PySem.W.method_fn X J (PySem.W.plainGet_of hg).1 (PySem.W.plainGet_of hg).2 hf (beq_iff_eq.mp ht) (by show(PySem.W.lookIn name od).map (·.isSome)=some false;rw[hl,hv];rfl) h
theorem set_map{ns:List Str}{Q:Unit->Shared->Prop}(X:K.In s.heap)(I:ObjM s.heap x dx C mA)
  (hs:PySem.W.findIn K (.ref C) "__setattr__"=some (some (.builtin "object.__setattr__")))(hp:PySem.W.plainOver K C=true)(ht:PySem.W.takerIn K C name=some none)(hh:PySem.W.hasDictIn K C=true)
  (hw:PySem.Within mA ns)(hsz:ns.length<=sizeLine)
  (h:∀h',ObjM h' x dx C (fun y=>if y=name then some v else mA y)->Heap.SameBut dx s.heap h'->Q () {s with heap:=h',toks:=s.toks+2}):
  wpAny (model prog w) A (setAttr (.ref x) name v) Q E s:=by
 obtain⟨od,J,hl⟩:=I.look
 refine PySem.W.set_plain X J hs (PySem.W.osa_open (s:={s with toks:=s.toks+1}) (r:=none) X J hp ht fun b=>?_)
 obtain⟨cd,hc,hd'⟩:=PySem.W.any_some hh
 have hx:s.heap.get? x=some ⟨.ref C,some dx,.plain,#[]⟩:=I.obj
 refine wpAny_bind (wpAny_pure (wpAny_bind (wpAny_bind (wpAny_loadPart hx (wpAny_bind (PySem.W.Looks.here (s:={s with toks:=s.toks+1}) (PySem.W.looks_clsIn X hc) ?_))))))
 rw[hd']
 refine wpAny_pure (a:=some dx) (wpAny_bind (wpAny_pure (wpAny_bind ?_)))
 refine wpAny_nsSet1 (s:={s with toks:=s.toks+1}) I.ns fun h' hn2 hs2=>?_
 obtain⟨oD,esD,epD,hoD,hdD,hcD⟩:=hn2.count (PySem.Within.cons name v hw)
 refine wpAny_bind (wpAny_lookBehind hoD (by rw[hdD];exact pastItsLine_dict (Nat.le_trans hcD (by rw[List.length_cons];omega))) ?_)
 exact wpAny_pure (h _ ⟨(hs2.2 _ (Ne.symm I.ne)).trans I.obj,hn2,I.ne⟩ hs2)
theorem ZfO{R:Result->Shared->Prop}{vs:List Value}{kw:List (Str×Value)}(X:K.In s.heap)(hm:PySem.W.makesIn K C=true)
  (hi:PySem.W.findIn K (.ref C) "__init__"=some (some (.ref f)))(hf:PySem.W.typeIn K (.ref f)=some (.type "function"))
  (h:codeAny (model prog w) (A.under (.builtin "type.__call__" ⟨.ref C::vs,kw⟩)) (.call (.ref f) ⟨.ref (s.heap.objs.size+1)::vs,kw⟩) (PySem.W.InitBack (s.heap.objs.size+1) R)
   {s with heap:=(s.heap.push PySem.W.emptyDict).push (PySem.W.instObj C s.heap.objs.size)}):
  codeAny (model prog w) A (.call (.ref C) ⟨vs,kw⟩) R s:=by
 obtain⟨hh,g,d,t,os⟩:=s
 exact PySem.W.make_core (PySem.W.makes_of X hm) (PySem.W.looks_findIn X hi) (fun self=>PySem.W.bind_fn X self hf) (.inl rfl) h
end
def Y5(f:Str)(v:V):List (Str×V)->List (Str×V)
 |[]=>[(f,v)]
 |(g,x)::r=>if g=f then(g,v)::r else(g,x)::Y5 f v r
theorem Za8(f g:Str)(v:V):∀fs:List (Str×V),(Y5 f v fs).lookup g=if g=f then some v else fs.lookup g
 |[]=>by
  show List.lookup g [(f,v)]=_
  by_cases h:g=f
  ·have hb:(g==f)=true:=beq_iff_eq.mpr h
   simp only[List.lookup,hb,if_pos h]
  ·have hb:(g==f)=false:=beq_eq_false_iff_ne.mpr h
   simp only[List.lookup,hb,if_neg h]
 |(k,x)::r=>by
  have ih:=Za8 f g v r
  rw[show Y5 f v ((k,x)::r)=(if k=f then(k,v)::r else(k,x)::Y5 f v r)from rfl]
  by_cases hk:k=f
  ·rw[if_pos hk]
   by_cases h:g=k
   ·have hb:(g==k)=true:=beq_iff_eq.mpr h
    simp only[List.lookup,hb,if_pos (h.trans hk)]
   ·have hb:(g==k)=false:=beq_eq_false_iff_ne.mpr h
    simp only[List.lookup,hb,if_neg (fun e:g=f=>h (e.trans hk.symm))]
  ·rw[if_neg hk]
   by_cases h:g=k
   ·have hb:(g==k)=true:=beq_iff_eq.mpr h
    simp only[List.lookup,hb,if_neg (fun e:g=f=>hk (h.symm.trans e))]
   ·have hb:(g==k)=false:=beq_eq_false_iff_ne.mpr h
    simp only[List.lookup,hb]
    exact ih
theorem Zaz(f:Str)(v:V):∀fs:List (Str×V),f∈(Y5 f v fs).map (·.1)/\∀g,g∈fs.map (·.1)->g∈(Y5 f v fs).map (·.1)
 |[]=>⟨by simp[Y5],fun g h=>by simp at h⟩
 |(k,x)::r=>by
  obtain⟨i1,i2⟩:=Zaz f v r
  rw[show Y5 f v ((k,x)::r)=(if k=f then(k,v)::r else(k,x)::Y5 f v r)from rfl]
  by_cases hk:k=f
  ·rw[if_pos hk]
   subst hk
   exact⟨by simp,fun g h=>by simpa using h⟩
  ·rw[if_neg hk]
   refine⟨?_,fun g h=>?_⟩
   ·rw[List.map_cons]
    exact List.mem_cons_of_mem _ i1
   ·rw[List.map_cons]at h⊢
    rcases List.mem_cons.mp h with e|e
    ·exact List.mem_cons.mpr (.inl e)
    ·exact List.mem_cons_of_mem _ (i2 g e)
theorem ZaA(f:Str)(v:V):∀fs:List (Str×V),(Y5 f v fs).length<=fs.length+1
 |[]=>by simp[Y5]
 |(k,x)::r=>by
  have ih:=ZaA f v r
  rw[show Y5 f v ((k,x)::r)=(if k=f then(k,v)::r else(k,x)::Y5 f v r)from rfl]
  by_cases hk:k=f
  ·rw[if_pos hk,List.length_cons,List.length_cons];omega
  ·rw[if_neg hk,List.length_cons,List.length_cons];omega
theorem RelO.some_of{v:V}{o:Option Value}(r:RelO (some v) o):∃u,o=some u/\RelV v u:=by
 cases o with
 |none=>exact(show False from r).elim
 |some u=>exact⟨u,rfl,r⟩
theorem RelO.none_of{o:Option Value}(r:RelO none o):o=none:=by
 cases o with
 |none=>rfl
 |some u=>exact(show False from r).elim
theorem ZbM{v:V}{u:Value}(r:RelV v u):PySem.W.handedIn u=true:=by
 cases v with
 |non=>cases(show u=Value.none from r);rfl
 |bl b=>cases(show u=Value.bool b from r);rfl
 |int i=>obtain⟨t,e⟩:=(show∃t,u=Value.int i t from r);cases e;rfl
 |str x=>obtain⟨t,e⟩:=(show∃t,u=Value.str x t from r);cases e;rfl
 |byt b=>obtain⟨t,e⟩:=(show∃t,u=Value.bytes b t from r);cases e;rfl
 |flt b=>obtain⟨t,e⟩:=(show∃t,u=Value.float b t from r);cases e;rfl
 |ref a=>cases(show u=Value.ref a from r);rfl
 |ty n=>cases(show u=Value.type n from r);rfl
section
variable{P:Program}{w:World}{H H':Hp}{h h':Heap}{a C dx:Addr}{fs fs':List (Str×V)}
theorem ZaK(hok:HOk P w H h)(e:H a=some (.ins C dx fs)):∃mA,ObjM h a dx C mA/\(∀f,RelO (fs.lookup f) (mA f))/\PySem.Within mA (fs.map (·.1))/\fs.length<=1000/\H dx=some (.own a):=by
 obtain⟨d,z,ne,ob,mA,n,r,q⟩:=(show ObjOk P w H h a (.ins C dx fs)from hok a _ e)
 exact⟨mA,⟨ob,n,ne⟩,r,q,z,d⟩
end
structure Cls(K:PySem.W.Frag)(C:Addr):Prop where
 pg:PySem.W.plainGet K C Str.empty=true
 hd:PySem.W.hasDictIn K C=true
 po:PySem.W.plainOver K C=true
 sa:PySem.W.findIn K (.ref C) "__setattr__"=some (some (.builtin "object.__setattr__"))
theorem Cls.get{K:PySem.W.Frag}{C:Addr}(c:Cls K C)(f:Str):PySem.W.plainGet K C f=true:=c.pg
def NoAttr(K:PySem.W.Frag)(C:Addr)(f:Str):Prop:=PySem.W.findIn K (.ref C) f=some none
theorem NoAttr.taker{K:PySem.W.Frag}{C:Addr}{f:Str}(n:NoAttr K C f):PySem.W.takerIn K C f=some none:=by
 unfold PySem.W.takerIn
 rw[show PySem.W.findIn K (.ref C) f=some none from n]
 rfl
structure ZdL(K:PySem.W.Frag)(C:Addr)(m:Str)(f:Addr):Prop where
 at_:PySem.W.findIn K (.ref C) m=some (some (.ref f))
 fn:PySem.W.isFn K (.ref f)=true
 kp:PySem.W.keepIn K (.ref f)=true
section
variable{X:Cx}{pins:List (Addr×Obj)}{σ:St}{H:Hp}{s:Shared}{a C dx:Addr}{fs:List (Str×V)}{f:Str}{v:V}{A:Around}{E:Value->Shared->Prop}
theorem Zbp{b:Bool}{Q:Value->Shared->Prop}(I:Inv X pins σ H s)(e:H a=some (.ins C dx fs))(c:Cls X.K C)(n:NoAttr X.K C f)(l:fs.lookup f=some v)
  (h:∀u s',Inv X pins σ H s'->RelV v u->Q u s'):wpAny (model X.prog X.w) A (getAttr (.ref a) f b) Q E s:=by
 obtain⟨mA,O,r,_,_,_⟩:=ZaK I.hok e
 obtain⟨u,hu,ru⟩:=RelO.some_of (v:=v) (o:=mA f) (by rw[<-l];exact r f)
 exact get_map I.kIn O (c.get f) c.hd n hu (ZbM ru) (h u _ (I.tok _) ru)
theorem Zbo{m:Str}{g:Addr}{pl:Sem Bool}{Q:Value×List Value->Shared->Prop}(I:Inv X pins σ H s)(e:H a=some (.ins C dx fs))(c:Cls X.K C)(k:ZdL X.K C m g)(l:fs.lookup m=none)
  (h:Q (.ref g,[.ref a]) s):wpAny (model X.prog X.w) A (getMethod (.ref a) m pl) Q E s:=by
 obtain⟨mA,O,r,_,_,_⟩:=ZaK I.hok e
 have hn:mA m=none:=RelO.none_of (by rw[<-l];exact r m)
 exact Zgc I.kIn O (c.get m) k.at_ k.fn hn h
theorem ZaX{y:V}{u:Value}{Q:Unit->Shared->Prop}(I:Inv X pins σ H s)(e:H a=some (.ins C dx fs))(c:Cls X.K C)(n:NoAttr X.K C f)(hl:fs.length<1000)(ry:RelV y u)
  (h:∀s',Inv X pins σ (upd H a (.ins C dx (Y5 f y fs))) s'->Q () s'):wpAny (model X.prog X.w) A (setAttr (.ref a) f u) Q E s:=by
 obtain⟨mA,O,r,wi,_,ho⟩:=ZaK I.hok e
 have hz:(fs.map (·.1)).length<=sizeLine:=by rw[List.length_map,sizeLine_eq];omega
 refine set_map I.kIn O c.sa c.po n.taker c.hd wi hz fun h' O' sb=>h _ ?_
 have hd:∃o,h'.get? dx=some o:=let⟨o,_,_,e',_⟩:=O'.ns;⟨o,e'⟩
 refine I.write (x:=a) (e:=dx) (by rw[e];exact True.intro) (.inr ho) (fun b q hb z=>(sb.2 b hb).trans z) hd ?_
 refine⟨by rw[Zg O.ne];exact ho,?_,O.ne,O'.obj,_,O'.ns,fun g=>?_,fun g hg=>?_⟩
 ·have:=ZaA f y fs;omega
 ·show RelO ((Y5 f y fs).lookup g) (if g=f then some u else mA g)
  rw[Za8]
  by_cases q:g=f
  ·rw[if_pos q,if_pos q];exact ry
  ·rw[if_neg q,if_neg q];exact r g
 ·by_cases q:g=f
  ·rw[q];exact(Zaz f y fs).1
  ·refine(Zaz f y fs).2 g (wi g fun z=>hg ?_)
   show(if g=f then some u else mA g)=none
   rw[if_neg q];exact z
theorem Inv.made(I:Inv X pins σ H s):Inv X pins σ (upd (upd H s.heap.objs.size (.own (s.heap.objs.size+1))) (s.heap.objs.size+1) (.ins C s.heap.objs.size []))
  {s with heap:=(s.heap.push PySem.W.emptyDict).push (PySem.W.instObj C s.heap.objs.size)}:=by
 have e1:(s.heap.push PySem.W.emptyDict).get? s.heap.objs.size=some PySem.W.emptyDict:=Heap.get?_push_size s.heap rfl
 have e2:((s.heap.push PySem.W.emptyDict).push (PySem.W.instObj C s.heap.objs.size)).get? (s.heap.objs.size+1)=some (PySem.W.instObj C s.heap.objs.size):=by
  have:=Heap.get?_push_size (s.heap.push PySem.W.emptyDict) (o:=PySem.W.instObj C s.heap.objs.size) rfl
  rwa [Heap.size_push]at this
 have e3:(s.heap.push PySem.W.emptyDict).Ns s.heap.objs.size (fun _=>none):=⟨PySem.W.emptyDict,#[],_,e1,rfl,(fun e he=>absurd he (by simp)),fun _=>rfl⟩
 have I1:=I.laid (a:=s.heap.objs.size) (o:= .own (s.heap.objs.size+1)) (h':=s.heap.push PySem.W.emptyDict) (t':=s.toks) (fun b u q=>Heap.get?_push_of_some _ q) (Nat.le_refl _) ⟨_,e1⟩
 refine I1.laid (a:=s.heap.objs.size+1) (o:= .ins C s.heap.objs.size []) (t':=s.toks) (fun b u q=>Heap.get?_push_of_some _ q) (Nat.le_of_eq (Heap.size_push _ _)) ?_
 have ne:s.heap.objs.size≠s.heap.objs.size+1:=Nat.ne_of_lt (Nat.lt_succ_self _)
 refine⟨by rw[Zg ne,Zf],Nat.zero_le _,ne,e2,fun _=>none,(Heap.Ns1.of_empty e3).at fun o q=>Heap.get?_push_of_some _ q,fun _=>True.intro,fun y hy=>absurd rfl hy⟩
theorem Zew{prog:Program}{w:World}{env:Env}{e:Expr}{f:Str}{pos:Pos}{s:Shared}{Q:Value->Shared->Prop}(hb:attributeBase e f env (eval e env)=eval e env)
  (h:wpAny (model prog w) A (eval e env) (fun o s₁=>wpAny (model prog w) A (getAttr o f true) Q E s₁) E s):wpAny (model prog w) A (eval (.Attribute e f pos) env) Q E s:=
 Attribute_any_ h (by rw[arm_eval_Attribute,hb])
end
def ZkM(K:PySem.W.Frag)(ta:TE)(f:Str):TE:=fun σ H Q=>ta σ H fun x H1=>∃a C dx fs v,x= .ref a/\H1 a=some (.ins C dx fs)/\Cls K C/\NoAttr K C f/\fs.lookup f=some v/\Q v H1
def ZkZ(K:PySem.W.Frag)(ta tv:TE)(f:Str):TS:=fun D σ H=>tv σ H fun y H1=>ta σ H1 fun x H2=>∃a C dx fs,x= .ref a/\H2 a=some (.ins C dx fs)/\Cls K C/\NoAttr K C f/\fs.length<1000/\
 D.nx σ (upd H2 a (.ins C dx (Y5 f y fs)))
def ZkC(X:Cx)(op:Operator)(rd:V->V->Hp->VK->Prop):Prop:=
 ∀(pins:List (Addr×Obj))(s:Shared)(σ:St)(H:Hp)(x y:V)(u v:Value)(Q:VK),Inv X pins σ H s->RelV x u->RelV y v->rd x y H Q->wpAny (model X.prog X.w) X.A (inplaceOp op u v) (EP X pins σ Q) X.xe s
def Zg9(K:PySem.W.Frag)(ta tv:TE)(rd:V->V->Hp->VK->Prop)(f:Str):TS:=fun D σ H=>ta σ H fun x H1=>∃a C dx fs v,x= .ref a/\H1 a=some (.ins C dx fs)/\Cls K C/\NoAttr K C f/\fs.lookup f=some v/\
 tv σ H1 fun y H2=>rd v y H2 fun z H3=>∃dx' fs',H3 a=some (.ins C dx' fs')/\fs'.length<1000/\D.nx σ (upd H3 a (.ins C dx' (Y5 f z fs')))
section
variable{X:Cx}{o e value:Expr}{f:Str}{pos pos' tpos:Pos}{ta tv:TE}
theorem JK(he:PE X e ta)(hb:attributeBase e f X.env (eval e X.env)=eval e X.env):PE X (.Attribute e f pos) (ZkM X.K ta f):=by
 intro pins s σ H Q I h
 refine Zew hb (thn (he pins s σ H _ I h) fun u s1⟨x,H1,I1,rx,a,C,dx,fs,v,ex,ea,c,n,l,q⟩=>?_)
 subst ex
 obtain rfl:u=Value.ref a:=rx
 exact Zbp I1 ea c n l fun u' s2 I2 ru=>⟨v,H1,I2,ru,q⟩
theorem Zdy(ha:PE X o ta)(hv:PE X value tv)(hs:swapsWith value (some (.Attribute o f pos')) pos.line X.env=pure false):PS X (.Assign [.Attribute o f pos'] value pos) (ZkZ X.K ta tv f):=by
 intro pins s σ H D I h
 refine plainObj_wpAny_Assign_Attribute (thn (hv pins s σ H _ I h) fun u s1⟨y,H1,I1,ry,q⟩=>thn (ha pins s1 σ H1 _ I1 q) fun ov s2⟨x,H2,I2,rx,a,C,dx,fs,ex,ea,c,n,l,q2⟩=>?_) hs
 subst ex
 obtain rfl:ov=Value.ref a:=rx
 exact ZaX I2 ea c n l ry fun s3 I3=>⟨σ,_,I3,q2⟩
theorem ZbG{op:Operator}{rd:V->V->Hp->VK->Prop}(ha:PE X o ta)(hv:PE X value tv)(hop:ZkC X op rd):PS X (.AugAssign (.Attribute o f tpos) op value pos) (Zg9 X.K ta tv rd f):=by
 intro pins s σ H D I h
 refine wpAny_AugAssign_AttributeAny (thn (ha pins s σ H _ I h) fun ov s1⟨x,H1,I1,rx,a,C,dx,fs,v,ex,ea,c,n,l,q⟩=>?_)
 subst ex
 obtain rfl:ov=Value.ref a:=rx
 refine Zbp I1 ea c n l fun u s2 I2 ru=>thn (hv pins s2 σ H1 _ I2 q) fun w3 s3⟨y,H2,I3,ry,q3⟩=>thn (hop pins s3 σ H2 v y u w3 _ I3 ru ry q3) fun w4 s4⟨z,H3,I4,rz,dx',fs',ea',l',q4⟩=>?_
 exact ZaX I4 ea' c n l' rz fun s5 I5=>⟨σ,_,I5,q4⟩
def rAdd:V->V->Hp->VK->Prop:=fun x y H Q=>∃i j,x= .int i/\y= .int j/\Q (.int (i+j)) H
theorem ZfZ:ZkC X .Add rAdd:=by
 rintro pins s σ H x y u v Q I rx ry ⟨i,j,rfl,rfl,q⟩
 obtain⟨t,rfl⟩:=(show∃t,u=Value.int i t from rx)
 obtain⟨t',rfl⟩:=(show∃t',v=Value.int j t' from ry)
 exact PyProof.Rows.iadd_int ⟨.int (i+j),H,I.tok _,⟨_,rfl⟩,q⟩
theorem ZhB{pl:Sem Bool}{m:Str}{apos:Pos}{args:List Expr}{pins:List (Addr×Obj)}{s:Shared}{σ:St}{H:Hp}{Q:Value->Shared->Prop}{te:TE}(he:PE X e te)(I:Inv X pins σ H s)
  (h:te σ H fun x H1=>∃a C dx fs g,x= .ref a/\H1 a=some (.ins C dx fs)/\Cls X.K C/\ZdL X.K C m g/\fs.lookup m=none/\
   ∀s1,Inv X pins σ H1 s1->wpAny (model X.prog X.w) X.A (callWith pos (.ref g) [.ref a] (backTo pos (starEach args X.env)) (backToKw pos (keywordEach [] X.env))) Q X.xe s1)
  (ht:eval (.Call (.Attribute e m apos) args [] pos) X.env=(do
   let ov<-eval e X.env
   standAt apos.atName
   let(f,first)<-holding [ov] (getMethod ov m pl)
   callWith pos f first (backTo pos (starEach args X.env)) (backToKw pos (keywordEach [] X.env)))):
  wpAny (model X.prog X.w) X.A (eval (.Call (.Attribute e m apos) args [] pos) X.env) Q X.xe s:=by
 refine PySem.W.methodCall_KW (pl:=pl) (thn (he pins s σ H _ I h) fun u s1⟨x,H1,I1,rx,a,C,dx,fs,g,ex,ea,c,k,l,q⟩=>?_) ht
 subst ex
 obtain rfl:u=Value.ref a:=rx
 exact Zbo I1 ea c k l (q s1 I1)
end
section
variable{X:Cx}{pins:List (Addr×Obj)}{σ:St}{H:Hp}{s:Shared}{A:Around}{E:Value->Shared->Prop}{Q:Value->Shared->Prop}{c:Value}{b:Bool}
inductive JQ(K:PySem.W.Frag)(H:Hp):V->Value->Prop where
 |non:JQ K H .non (.type "NoneType")
 |bl (x:Bool):JQ K H (.bl x) (.type "bool")
 |int (i:Int):JQ K H (.int i) (.type "int")
 |str (x:Str):JQ K H (.str x) (.type "str")
 |flt (x:UInt64):JQ K H (.flt x) (.type "float")
 |lst {a:Addr} {xs:List V} (e:H a=some (.lst xs)):JQ K H (.ref a) (.type "list")
 |frz {a:Addr} {o:Obj} {xs:List V} (e:H a=some (.frz o (.lst xs))):JQ K H (.ref a) (.type "list")
 |tup {a:Addr} {xs:List V} (e:H a=some (.tup xs)):JQ K H (.ref a) (.type "tuple")
 |dK {a:Addr} {kvs:List (Key×V)} (e:H a=some (.dK kvs)):JQ K H (.ref a) (.type "dict")
 |dT {a:Addr} {kvs:List (List Key×V)} (e:H a=some (.dT kvs)):JQ K H (.ref a) (.type "dict")
 |ins {a C dx:Addr} {fs:List (Str×V)} (e:H a=some (.ins C dx fs)) (cl:Cls K C) (ha:PySem.W.findIn K (.ref C) "__class__"=some (some (.builtin "object.__class__")))
   (hn:PySem.W.specialIn K (.builtin "object.__class__") "__get__"=some (some (.builtin "getset_descriptor.__get__"))) (htk:PySem.W.takesIn K (.builtin "object.__class__")=some true)
   (hm:PySem.W.mroIn K C (.type "object")=some true):JQ K H (.ref a) (.ref C)
theorem ZeM{x:V}{u t:Value}(I:Inv X pins σ H s)(rx:RelV x u)(ty:JQ X.K H x t)(e:PySem.W.kitOne X.K t c=some b)(h:∀tk,Q (.bool b) {s with toks:=tk}):
  wpAny (model X.prog X.w) A (call (.builtin "isinstance") [u,c]) Q E s:=by
 cases ty with
 |non=>cases(show u=Value.none from rx);exact PySem.W.kia_one PySem.W.kitx_none I.kIn True.intro e (fun z=>nomatch z) h
 |bl y=>cases(show u=Value.bool y from rx);exact PySem.W.kia_one PySem.W.kitx_bool I.kIn True.intro e (fun z=>nomatch z) h
 |int i=>obtain⟨t,q⟩:=(show∃t,u=Value.int i t from rx);cases q;exact PySem.W.kia_one PySem.W.kitx_int I.kIn True.intro e (fun z=>nomatch z) h
 |str y=>obtain⟨t,q⟩:=(show∃t,u=Value.str y t from rx);cases q;exact PySem.W.kia_one PySem.W.kitx_str I.kIn True.intro e (fun z=>nomatch z) h
 |flt y=>obtain⟨t,q⟩:=(show∃t,u=Value.float y t from rx);cases q;exact PySem.W.kia_one PySem.W.kitx_float I.kIn True.intro e (fun z=>nomatch z) h
 |@lst a xs ea=>
  cases(show u=Value.ref a from rx)
  obtain⟨_,_,n,_,h1⟩:=(show ObjOk X.prog X.w H s.heap a (.lst xs)from I.hok a _ ea)
  exact PySem.W.kia_one PySem.W.kitx_list I.kIn ⟨_,h1,rfl⟩ e (fun z=>nomatch z) h
 |@frz a ob xs ea=>
  cases(show u=Value.ref a from rx)
  obtain⟨_,_,_,n,_,h1⟩:=(show ObjOk X.prog X.w H s.heap a (.frz ob (.lst xs))from I.hok a _ ea)
  exact PySem.W.kia_one PySem.W.kitx_list I.kIn ⟨_,h1,rfl⟩ e (fun z=>nomatch z) h
 |@tup a xs ea=>
  cases(show u=Value.ref a from rx)
  obtain⟨_,_,_,p⟩:=(show ObjOk X.prog X.w H s.heap a (.tup xs)from I.hok a _ ea)
  obtain⟨o,h1,h2,_⟩:=p
  exact PySem.W.kia_one PySem.W.kitx_tuple I.kIn ⟨o,h1,h2⟩ e (fun z=>nomatch z) h
 |@dK a kvs ea=>
  cases(show u=Value.ref a from rx)
  obtain⟨_,_,vs,_,p⟩:=(show ObjOk X.prog X.w H s.heap a (.dK kvs)from I.hok a _ ea)
  obtain⟨o,es,ep,h1,h2,_⟩:=p
  exact PySem.W.kia_one PySem.W.kitx_dict I.kIn ⟨o,h1,h2.1⟩ e (fun z=>nomatch z) h
 |@dT a kvs ea=>
  cases(show u=Value.ref a from rx)
  obtain⟨_,_,xs,_,o,es,ep,h1,h2,_⟩:=(show ObjOk X.prog X.w H s.heap a (.dT kvs)from I.hok a _ ea)
  exact PySem.W.kia_one PySem.W.kitx_dict I.kIn ⟨o,h1,h2.1⟩ e (fun z=>nomatch z) h
 |@ins a C dx fs ea cl ha hn htk hm=>
  cases(show u=Value.ref a from rx)
  obtain⟨mA,O,_⟩:=ZaK I.hok ea
  obtain⟨od,J,_⟩:=O.look
  exact PySem.W.kia_one (PySem.W.kitx_own (cl.get _) cl.hd ha hn htk hm) I.kIn J e (fun z=>nomatch z) h
end
structure Room(k:Nat)(A:Around):Prop where
 hd:A.handled=none
 dp:A.depth+3*k+5<recursionLimit
 un:A.units+16*k+200<cLine
theorem Room.mono{j k:Nat}{A:Around}(r:Room k A)(h:j<=k):Room j A:=⟨r.hd,by have:=r.dp;omega,by have:=r.un;omega⟩
theorem Room.deeper{k:Nat}{A:Around}(r:Room (k+1) A)(env:Env):Room k (A.deeper env):=
 ⟨r.hd,by have:=r.dp;show A.depth+1+3*k+5<_;omega,by have:=r.un;show A.units+3+16*k+200<_;omega⟩
theorem Room.in1{k:Nat}{A:Around}(r:Room (k+1) A):Room k A.in1:=
 ⟨r.hd,by have:=r.dp;show A.depth+3*k+5<_;omega,by have:=r.un;show A.units+1+16*k+200<_;omega⟩
theorem ZdC{A:Around}{C:Addr}{us:List Value}{kw:List (Str×Value)}:(A.under (.builtin "type.__call__" ⟨.ref C::us,kw⟩)).depth=A.depth+1:=by
 first|rfl|simp[Around.under,Code.weight,Code.isCreation,Code.isGuard,Code.isCaller,Code.frames,Code.isFrame,guardIds]
theorem ZdB{A:Around}{C:Addr}{us:List Value}{kw:List (Str×Value)}:(A.under (.builtin "type.__call__" ⟨.ref C::us,kw⟩)).units=A.units+1:=by
 first|rfl|simp[Around.under,Code.cUnits,Code.frames,Code.isFrame]
theorem Room.make{k:Nat}{A:Around}(r:Room (k+1) A)(C:Addr)(us:List Value)(kw:List (Str×Value)):Room k (A.under (.builtin "type.__call__" ⟨.ref C::us,kw⟩)):=
 ⟨r.hd,by have:=r.dp;rw[ZdC];omega,by have:=r.un;rw[ZdB];omega⟩
theorem Room.depth{k:Nat}{A:Around}(r:Room k A):A.depth<recursionLimit:=by have:=r.dp;omega
theorem Room.units{k:Nat}{A:Around}(r:Room k A):A.units+64<cLine:=by have:=r.un;omega
def tNil:TA:=fun _ H Q=>Q [] H
def YS(ta:TE)(tr:TA):TA:=fun σ H Q=>ta σ H fun x H1=>tr σ H1 fun xs H2=>Q (x::xs) H2
section
variable{X:Cx}{e:Expr}{es:List Expr}{te:TE}{t:TA}{pos:Pos}
theorem Za:PA X [] tNil:=fun _ _ _ _ H Q I h=>Calls.spliced_nil ⟨[],H,I,.nil,h⟩
theorem ZaH(ha:PE X e te)(hr:PA X es t)(hs:starEach (e::es) X.env=(false,eval e X.env)::starEach es X.env:=by rfl):PA X (e::es) (YS te t):=by
 intro pos pins s σ H Q I h
 rw[hs]
 show wpAny _ _ (spliced ((false,eval e X.env)::backTo pos (starEach es X.env))) _ _ s
 refine Calls.spliced_cons (thn (ha pins s σ H _ I h) fun u s1⟨x,H1,I1,r1,q1⟩=>?_)
 exact thn (hr pos pins s1 σ H1 _ I1 q1) fun us s2⟨xs,H2,I2,r2,q2⟩=>⟨x::xs,H2,I2,.cons r1 r2,q2⟩
def ZkH(t:TA):TE:=fun σ H Q=>t σ H fun xs H1=>xs.length<=sizeLine/\∀p,H1 p=none->Q (.ref p) (upd H1 p (.lst xs))
theorem Jc(h:PA X es t):PE X (.List es pos) (ZkH t):=by
 intro pins s σ H Q I hq
 refine wpAny_List_spliced (thn (h pos pins s σ H _ I hq) fun us s1⟨xs,H1,I1,r,z,q⟩=>⟨by rw[<-r.length];exact z,?_⟩)
 have hf:H1 s1.heap.objs.size=none:=I1.hok.fresh (Nat.le_refl _)
 refine⟨.ref s1.heap.objs.size,upd H1 s1.heap.objs.size (.lst xs),I1.laid (t':=s1.toks) (fun b u e=>Heap.get?_push_of_some _ e) (Nat.le_refl _) ?_,rfl,q _ hf⟩
 exact⟨z,us,0,r,Heap.get?_push_size _ rfl⟩
end
abbrev Sp:=List V->Hp->VK->XK->Prop
abbrev CXT:=List Env->Hp->Shared->XK->Value->Shared->Prop
structure Env0(P:Program)(w:World)(K:PySem.W.Frag)(mg:Str->Option Value)(base:Heap)(A:Around)(outer:List Env)(s:Shared)(H:Hp):Prop where
 frames:A.frames=some outer
 mod:Mod K mg base
 bs:∀b o,base.get? b=some o->s.heap.get? b=some o/\H b=none
 bsz:base.objs.size<=s.heap.objs.size
 funs:s.heap.FunFrames base outer
 frf:∀b∈frs outer,H b=none
 hok:HOk P w H s.heap
 bare:AllBare s.gens
def CE(outer:List Env)(P:Program)(w:World)(H:Hp)(s:Shared)(Q:VK)(u:Value)(s':Shared):Prop:=
 ∃v H',s'.os=s.os/\AllBare s'.gens/\Un (frs outer) [] H H' s.heap s'.heap/\HOk P w H' s'.heap/\RelV v u/\Q v H'
def CR(CX:CXT)(outer:List Env)(P:Program)(w:World)(H:Hp)(s:Shared)(Q:VK)(E:XK)(r:Result)(s':Shared):Prop:=
 match r with
 | .ok (.ret u)=>CE outer P w H s Q u s'
 | .ok _=>False
 | .error e=>CX outer H s E e s'
structure FnOk(P:Program)(w:World)(K:PySem.W.Frag)(mg:Str->Option Value)(base:Heap)(CX:CXT)(k:Nat)(f:Addr)(fd:FuncData)(ps:List Str)(sp:Sp):Prop where
 len:∀vs H Q E,sp vs H Q E->vs.length=ps.length
 run:∀(A:Around)(outer:List Env)(s:Shared)(H:Hp)(args:Args)(us:List Value)(vs:List V)(Q:VK)(E:XK),Room k A->Env0 P w K mg base A outer s H->BindsTo s fd args (ps.zip us)->Vals vs us->sp vs H Q E->
  codeAny (model P w) A (.call (.ref f) args) (CR CX outer P w H s Q E) s
theorem FnOk.mono{P:Program}{w:World}{K:PySem.W.Frag}{mg:Str->Option Value}{base:Heap}{CX:CXT}{j k:Nat}{f:Addr}{fd:FuncData}{ps:List Str}{sp:Sp}(F:FnOk P w K mg base CX j f fd ps sp)(h:j<=k):
  FnOk P w K mg base CX k f fd ps sp:=⟨F.len,fun A outer s H args us vs Q E hr=>F.run A outer s H args us vs Q E (hr.mono h)⟩
theorem Env0.make{P:Program}{w:World}{K:PySem.W.Frag}{mg:Str->Option Value}{base:Heap}{A:Around}{outer:List Env}{s:Shared}{H:Hp}(e:Env0 P w K mg base A outer s H)(C:Addr)(us:List Value)(kw:List (Str×Value)):
  Env0 P w K mg base (A.under (.builtin "type.__call__" ⟨.ref C::us,kw⟩)) outer s H:=⟨by first|exact e.frames|(simpa[Around.under,Code.envs,Code.isFrame,pushEnvs]using e.frames),e.mod,e.bs,e.bsz,e.funs,e.frf,e.hok,e.bare⟩
theorem Env0.in1{P:Program}{w:World}{K:PySem.W.Frag}{mg:Str->Option Value}{base:Heap}{A:Around}{outer:List Env}{s:Shared}{H:Hp}(e:Env0 P w K mg base A outer s H):
  Env0 P w K mg base A.in1 outer s H:=⟨e.frames,e.mod,e.bs,e.bsz,e.funs,e.frf,e.hok,e.bare⟩
section
variable{X:Cx}{pins:List (Addr×Obj)}{σ:St}{H:Hp}{s s':Shared}
theorem Inv.env0(I:Inv X pins σ H s):Env0 X.prog X.w X.K X.mg X.base X.A X.stack s H:=
 ⟨I.ok.frames,I.ok.mod,I.bs,Nat.le_trans I.ok.bsz I.sz,I.stack,I.stkFree,I.hok,I.bare⟩
theorem Inv.after{Q:VK}{u:Value}(I:Inv X pins σ H s)(h:CE X.stack X.prog X.w H s Q u s'):EP X pins σ Q u s':=by
 obtain⟨v,H',os,bare,un,hok,r,q⟩:=h
 obtain⟨hh,g,d,t,os'⟩:=s'
 obtain rfl:os'=s.os:=os
 exact⟨v,H',I.call (h':=hh) (g':=g) (d':=d) (t':=t) (ch:=[]) un hok bare (fun b z=>absurd z (by simp)),r,q⟩
end
def ZdP(sp:Sp)(dvs:List V)(E:XK)(t:TA):TE:=fun σ H Q=>t σ H fun vs H1=>sp (vs++dvs) H1 Q E
def Zh3(C:Addr)(m:Str)(sp:Sp)(dvs:List V)(E:XK)(ta:TE)(t:TA):TE:=fun σ H Q=>ta σ H fun x H1=>∃a dx fs,x= .ref a/\H1 a=some (.ins C dx fs)/\fs.lookup m=none/\
 t σ H1 fun vs H2=>sp (x::(vs++dvs)) H2 Q E
def ZiX(C:Addr)(sp:Sp)(dvs:List V)(E:XK)(t:TA):TE:=fun σ H Q=>t σ H fun vs H1=>∀x dx,H1 x=none->H1 dx=none->dx≠x->
 sp (.ref x::(vs++dvs)) (upd (upd H1 dx (.own x)) x (.ins C dx [])) (fun v H2=>v= .non/\Q (.ref x) H2) E
def Binds(K:PySem.W.Frag)(fd:FuncData)(ps:List Str)(ds:List Value):Prop:=
 ∀(s:Shared)(us:List Value),K.In s.heap->(us++ds).length=ps.length->BindsTo s fd ⟨us,[]⟩ (ps.zip (us++ds))
theorem Binds.all{K:PySem.W.Frag}{fd:FuncData}{ps:List Str}(h:∀us:List Value,us.length=ps.length->bindArgs fd ⟨us,[]⟩=pure (ps.zip us)):Binds K fd ps []:=fun s us _ hl=>by
 rw[List.append_nil]at hl⊢
 exact .of_eq (h us hl)
def JR(CX:CXT)(X:Cx)(E:XK):Prop:=∀(pins:List (Addr×Obj))(σ:St)(H:Hp)(s:Shared)(e:Value)(s':Shared),Inv X pins σ H s->CX X.stack H s E e s'->X.xe e s'
section
variable{X:Cx}{CX:CXT}{k:Nat}{f C:Addr}{fd:FuncData}{ps:List Str}{sp:Sp}{dvs:List V}{ds:List Value}{E:XK}{x m:Str}{p pos apos:Pos}{e o:Expr}{es:List Expr}{ta:TE}{t:TA}
theorem Zfq{pins:List (Addr×Obj)}{σ:St}{H:Hp}{s:Shared}{Q:VK}{us:List Value}{vs:List V}(F:FnOk X.prog X.w X.K X.mg X.base CX k f fd ps sp)(hr:Room k X.A)(hb:Binds X.K fd ps ds)(hd:Vals dvs ds)(hx:JR CX X E)
  (I:Inv X pins σ H s)(r:Vals vs us)(h:sp (vs++dvs) H Q E):wpAny (model X.prog X.w) X.A (call (.ref f) us) (EP X pins σ Q) X.xe s:=by
 have r2:Vals (vs++dvs) (us++ds):=r.append hd
 have hl:(us++ds).length=ps.length:=by rw[<-r2.length];exact F.len _ _ _ _ h
 refine wpAny_call (codeAny_mono (F.run X.A X.stack s H ⟨us,[]⟩ (us++ds) (vs++dvs) Q E hr I.env0 (hb s us I.kIn hl) r2 h) fun r s' hq=>?_)
 cases r with
 |error e=>exact hx pins σ H s e s' I hq
 |ok fl=>
  cases fl with
  |ret u=>exact I.after hq
  |next=>exact False.elim hq
  |brk=>exact False.elim hq
  |cont=>exact False.elim hq
theorem ZaG(F:FnOk X.prog X.w X.K X.mg X.base CX k f fd ps sp)(hr:Room k X.A)(hg:Gl X x)(hm:X.mg x=some (.ref f))(hk:PySem.W.keepIn X.K (.ref f)=true)(hb:Binds X.K fd ps ds)(hd:Vals dvs ds)(hx:JR CX X E)
  (ha:PA X (e::es) t)(hdb:(x==("__debug__":Str))=false:=by decide)(he:starEach (e::es) X.env=(false,eval e X.env)::starEach es X.env:=by rfl)(hpl:(backTo pos (starEach es X.env)).any (·.1)=false:=by rfl):
  PE X (.Call (.Name x p) (e::es) [] pos) (ZdP sp dvs E t):=by
 intro pins s σ H Q I h
 refine wpAny_Call_Name_kw (Jg I hg hm ?_ hdb)
 refine PySem.W.callWith_K (h₀:=X.base) I.ok.mod.kin hk (thn (ha pos pins s σ H _ I h) fun us s1⟨vs,H1,I1,r,q⟩=>⟨I1.kIn,?_⟩) he hpl
 exact Zfq F hr hb hd hx I1 r q
theorem Zcl{pl:Sem Bool}(he:PE X o ta)(c:Cls X.K C)(hm:ZdL X.K C m f)(F:FnOk X.prog X.w X.K X.mg X.base CX k f fd ps sp)(hr:Room k X.A)(hb:Binds X.K fd ps ds)(hd:Vals dvs ds)(hx:JR CX X E)(ha:PA X (e::es) t)
  (hst:starEach (e::es) X.env=(false,eval e X.env)::starEach es X.env:=by rfl)(hpl:(backTo pos (starEach es X.env)).any (·.1)=false:=by rfl)
  (ht:eval (.Call (.Attribute o m apos) (e::es) [] pos) X.env=(do
   let ov<-eval o X.env
   standAt apos.atName
   let(f,first)<-holding [ov] (getMethod ov m pl)
   callWith pos f first (backTo pos (starEach (e::es) X.env)) (backToKw pos (keywordEach [] X.env))):=by rfl):
  PE X (.Call (.Attribute o m apos) (e::es) [] pos) (Zh3 C m sp dvs E ta t):=by
 intro pins s σ H Q I h
 refine PySem.W.methodCall_KW (pl:=pl) (thn (he pins s σ H _ I h) fun u s1⟨x,H1,I1,rx,a,dx,fs,ex,ea,l,q⟩=>?_) ht
 subst ex
 obtain rfl:u=Value.ref a:=rx
 refine Zbo I1 ea c hm l ?_
 refine PySem.W.callWith_K (first:=[.ref a]) (h₀:=X.base) I.ok.mod.kin hm.kp (thn (ha pos pins s1 σ H1 _ I1 q) fun us s2⟨vs,H2,I2,r,q2⟩=>⟨I2.kIn,?_⟩) hst hpl
 exact Zfq (us:= .ref a::us) (vs:= .ref a::vs) F hr hb hd hx I2 (.cons rfl r) q2
structure Mk(K:PySem.W.Frag)(C f:Addr):Prop where
 makes:PySem.W.makesIn K C=true
 init:PySem.W.findIn K (.ref C) "__init__"=some (some (.ref f))
 fn:PySem.W.isFn K (.ref f)=true
 kp:PySem.W.keepIn K (.ref C)=true
theorem Zfp{pins:List (Addr×Obj)}{σ:St}{H:Hp}{s:Shared}{Q:VK}{us:List Value}{vs:List V}(M:Mk X.K C f)(F:FnOk X.prog X.w X.K X.mg X.base CX k f fd ps sp)(hr:Room (k+1) X.A)(hb:Binds X.K fd ps ds)(hd:Vals dvs ds)
  (hx:JR CX X E)(I:Inv X pins σ H s)(r:Vals vs us)
  (h:∀x dx,H x=none->H dx=none->dx≠x->sp (.ref x::(vs++dvs)) (upd (upd H dx (.own x)) x (.ins C dx [])) (fun v H2=>v= .non/\Q (.ref x) H2) E):
  wpAny (model X.prog X.w) X.A (call (.ref C) us) (EP X pins σ Q) X.xe s:=by
 have hq:=h (s.heap.objs.size+1) s.heap.objs.size (I.hok.fresh (Nat.le_succ _)) (I.hok.fresh (Nat.le_refl _)) (Nat.ne_of_lt (Nat.lt_succ_self _))
 have I2:=Inv.made (C:=C) I
 have r2:Vals (V.ref (s.heap.objs.size+1)::(vs++dvs)) (Value.ref (s.heap.objs.size+1)::(us++ds)):= .cons rfl (r.append hd)
 have hl:(Value.ref (s.heap.objs.size+1)::us++ds).length=ps.length:=by
  have e:=r2.length
  rw[F.len _ _ _ _ hq]at e
  exact e.symm
 refine wpAny_call (ZfO (f:=f) I.kIn M.makes M.init (beq_iff_eq.mp M.fn) (codeAny_mono (F.run _ X.stack _ _ ⟨Value.ref (s.heap.objs.size+1)::us,[]⟩ (Value.ref (s.heap.objs.size+1)::(us++ds)) _ _ E (hr.make C us [])
  (I2.env0.make C us []) (hb _ (Value.ref (s.heap.objs.size+1)::us) I2.kIn hl) r2 hq) fun r s' hq'=>?_))
 cases r with
 |error e=>exact hx pins σ _ _ e s' I2 hq'
 |ok fl=>
  cases fl with
  |ret u=>
   obtain⟨v,H',I3,rv,ev,q3⟩:=I2.after hq'
   subst ev
   exact⟨rv,⟨V.ref (s.heap.objs.size+1),H',I3,rfl,q3⟩⟩
  |next=>exact False.elim hq'
  |brk=>exact False.elim hq'
  |cont=>exact False.elim hq'
theorem ZgG(M:Mk X.K C f)(F:FnOk X.prog X.w X.K X.mg X.base CX k f fd ps sp)(hr:Room (k+1) X.A)(hg:Gl X x)(hm:X.mg x=some (.ref C))(hb:Binds X.K fd ps ds)(hd:Vals dvs ds)(hx:JR CX X E)
  (ha:PA X (e::es) t)(hdb:(x==("__debug__":Str))=false:=by decide)(he:starEach (e::es) X.env=(false,eval e X.env)::starEach es X.env:=by rfl)(hpl:(backTo pos (starEach es X.env)).any (·.1)=false:=by rfl):
  PE X (.Call (.Name x p) (e::es) [] pos) (ZiX C sp dvs E t):=by
 intro pins s σ H Q I h
 refine wpAny_Call_Name_kw (Jg I hg hm ?_ hdb)
 refine PySem.W.callWith_K (h₀:=X.base) I.ok.mod.kin M.kp (thn (ha pos pins s σ H _ I h) fun us s1⟨vs,H1,I1,r,q⟩=>⟨I1.kIn,?_⟩) he hpl
 exact Zfp M F hr hb hd hx I1 r q
end
def PK(X:Cx)(kws:List Keyword)(t:TA):Prop:=
 ∀(pos:Pos)(pins:List (Addr×Obj))(s:Shared)(σ:St)(H:Hp)(Q:List V->Hp->Prop),Inv X pins σ H s->t σ H Q->wpAny (model X.prog X.w) X.A (evalAll ((backToKw pos (keywordEach kws X.env)).map (·.2))) (AP X pins σ Q) X.xe s
section
variable{X:Cx}{CX:CXT}{k:Nat}{f C:Addr}{fd:FuncData}{ps ks:List Str}{sp:Sp}{E:XK}{x m:Str}{p pos apos kpos:Pos}{e o:Expr}{es:List Expr}{kws:List Keyword}{te ta:TE}{t tk:TA}{nm:Option Str}
theorem Zik:PK X [] tNil:=fun _ _ _ _ H Q I h=>wpAny_evalAll_nil ⟨[],H,I,.nil,h⟩
theorem ZgE(ha:PE X e te)(hr:PK X kws t):PK X (⟨nm,e,kpos⟩::kws) (YS te t):=by
 intro pos pins s σ H Q I h
 show wpAny _ _ (evalAll ((do let v<-eval e X.env;standAt pos;pure v)::(backToKw pos (keywordEach kws X.env)).map (·.2))) _ _ s
 refine wpAny_evalAll_cons (wpAny_bind (thn (ha pins s σ H _ I h) fun u s1⟨x,H1,I1,r1,q1⟩=>wpAny_bind (wpAny_standAt (wpAny_pure ?_))))
 exact thn (hr pos pins s1 σ H1 _ I1 q1) fun us s2⟨xs,H2,I2,r2,q2⟩=>⟨x::xs,H2,I2,.cons r1 r2,q2⟩
structure ZdM(K:PySem.W.Frag)(fd:FuncData)(ps ks:List Str)(g:List Value->List Value->List Value)(gV:List V->List V->List V):Prop where
 to:∀(s:Shared)(us ws:List Value),K.In s.heap->(g us ws).length=ps.length->BindsTo s fd ⟨us,ks.zip ws⟩ (ps.zip (g us ws))
 rel:∀{vs:List V}{us:List Value}{zs:List V}{ws:List Value},Vals vs us->Vals zs ws->Vals (gV vs zs) (g us ws)
variable{g:List Value->List Value->List Value}{gV:List V->List V->List V}
end
structure Zx(N P:List Str)(sc:Scope):Prop where
 kind:sc.kind= .function
 co:sc.isCoroutine=false
 gen:sc.isGenerator=false
 nd:N.Nodup
 pre:N.take P.length=P
 par:∀x∈P,sc.names.lookup x=some .local\/sc.names.lookup x=some .cell
 nofree:∀y∈sc.names,y.2≠.free
theorem ZbV{kindOf:Str->Option NameKind}{x:Str}:∀{binds:List (Str×Value)}{m:Str->Option Value},(∀v,(x,v) ∉ binds)->bindL kindOf binds m x=m x
 |[],_,_=>rfl
 |(n,v)::r,m,h=>by
  unfold bindL
  rw[ZbV fun w hw=>h w (List.mem_cons_of_mem _ hw)]
  split
  ·have:x≠n:=by rintro rfl;exact h v List.mem_cons_self
   simp[this]
  ·rfl
theorem ZbX{kindOf:Str->Option NameKind}{x:Str}:∀{binds:List (Str×Value)}{m:Str->Option Value},(∀v,(x,v) ∉ binds)->bindC kindOf binds m x=m x
 |[],_,_=>rfl
 |(n,v)::r,m,h=>by
  unfold bindC
  rw[ZbX fun w hw=>h w (List.mem_cons_of_mem _ hw)]
  split
  ·rfl
  ·have:x≠n:=by rintro rfl;exact h v List.mem_cons_self
   simp[this]
theorem ZbW{kindOf:Str->Option NameKind}{x:Str}{v:Value}:∀{P:List Str}{vs:List Value}{i:Nat}{m:Str->Option Value},P.Nodup->P[i]?=some x->vs[i]?=some v->kindOf x=some .local->
  bindL kindOf (P.zip vs) m x=some v
 |[],_,_,_,_,h,_,_=>by simp at h
 |_::_,[],_,_,_,_,h,_=>by simp at h
 |p::P,w::vs,0,m,nd,h1,h2,hk=>by
  simp at h1 h2;subst h1;subst h2
  show bindL kindOf ((p,w)::P.zip vs) m p=_
  unfold bindL
  rw[ZbV fun v hv=>(List.nodup_cons.mp nd).1 (List.of_mem_zip hv).1,if_pos hk]
  simp
 |p::P,w::vs,i+1,m,nd,h1,h2,hk=>by
  show bindL kindOf ((p,w)::P.zip vs) m x=_
  unfold bindL
  exact ZbW (i:=i) (List.nodup_cons.mp nd).2 (by simpa using h1) (by simpa using h2) hk
theorem ZbY{kindOf:Str->Option NameKind}{x:Str}{v:Value}:∀{P:List Str}{vs:List Value}{i:Nat}{m:Str->Option Value},P.Nodup->P[i]?=some x->vs[i]?=some v->kindOf x≠some .local->
  bindC kindOf (P.zip vs) m x=some v
 |[],_,_,_,_,h,_,_=>by simp at h
 |_::_,[],_,_,_,_,h,_=>by simp at h
 |p::P,w::vs,0,m,nd,h1,h2,hk=>by
  simp at h1 h2;subst h1;subst h2
  show bindC kindOf ((p,w)::P.zip vs) m p=_
  unfold bindC
  rw[ZbX fun v hv=>(List.nodup_cons.mp nd).1 (List.of_mem_zip hv).1,if_neg hk]
  simp
 |p::P,w::vs,i+1,m,nd,h1,h2,hk=>by
  show bindC kindOf ((p,w)::P.zip vs) m x=_
  unfold bindC
  exact ZbY (i:=i) (List.nodup_cons.mp nd).2 (by simpa using h1) (by simpa using h2) hk
def start(N:List Str)(vs:List V):St:=vs.map some++List.replicate (N.length-vs.length) none
def ZF(CX:CXT)(P:Program)(w:World)(K:PySem.W.Frag)(mg:Str->Option Value)(base:Heap)(N:List Str)(qual:Str)(scope:Scope)(f:Addr)(cd:Value)(A:Around)(outer:List Env)(s:Shared)(H:Hp)(E:XK):Cx where
 prog:=P
 w:=w
 K:=K
 mg:=mg
 base:=base
 A:=A.deeper (envOfC qual scope s.heap.objs.size f cd)
 N:=N
 s₀:=s
 H₀:=H
 env:=envOfC qual scope s.heap.objs.size f cd
 outer:=outer
 stack:=envOfC qual scope s.heap.objs.size f cd::outer
 ex:=[]
 calm:=true
 fn:=fun _=>true
 pn:=[]
 xe:=fun e s'=>wpAny (model P w) (A.deeper (envOfC qual scope s.heap.objs.size f cd)) (leaving (envOfC qual scope s.heap.objs.size f cd) e) (fun _ s''=>CX outer H s E e s'') (fun e' s''=>CX outer H s E e' s'') s'
theorem Zdc{sc:Scope}{n:Nat}{x:Str}(h:sc.names.lookup x=some .cell):∃c,(cellsFrom n sc.names []).lookup x=some c:=by
 have q:=PySem.W.cellsFrom_some sc.names n [] (.inl h)
 exact Option.isSome_iff_exists.mp q
theorem ZeN{CX:CXT}{P:Program}{w:World}{K:PySem.W.Frag}{mg:Str->Option Value}{base:Heap}{N ps:List Str}{qual:Str}{scope:Scope}{f:Addr}{cd:Value}{A:Around}{outer:List Env}{s s1:Shared}{H:Hp}{E:XK}{us:List Value}{vs:List V}
  (S:Zx N ps scope)(hd:A.handled=none)(e0:Env0 P w K mg base A outer s H)(hl:vs.length=ps.length)(r:Vals vs us)
  (x:InCallC s s.heap.objs.size (bindL (envOfC qual scope s.heap.objs.size f cd).kindOf (ps.zip us) fun _=>none) (cellsFrom (s.heap.objs.size+1) scope.names []) (bindC (envOfC qual scope s.heap.objs.size f cd).kindOf (ps.zip us) fun _=>none) s1):
  Inv (ZF CX P w K mg base N qual scope f cd A outer s H E) [] (start N vs) H s1:=by
 have hpl:ps.length<=N.length:=by have:=congrArg List.length S.pre;rw[List.length_take]at this;omega
 obtain⟨h1,tk,rfl,hk⟩:=x.done
 have noA:∀b:Addr,b ∉ (ZF CX P w K mg base N qual scope f cd A outer s H E).ex:=fun b z=>absurd (show b∈([]:List Addr)from z) (by simp)
 refine⟨⟨e0.mod,S.kind,rfl,rfl,Nat.le_refl _,fun y z c h1 h2=>?_,fun y hy=>?_,fun y c _ h=>?_,fun _=>hd,Around.frames_deeper e0.frames,.inr ⟨rfl,rfl⟩,fun b z=>absurd z (noA b),e0.bs,e0.bsz,fun b _ _=>noA b,fun b z=>absurd z (noA b),e0.funs,e0.frf⟩,
  rfl,e0.bare,Un.kept hk,⟨_,x.toInCall.ns,fun i y v h1 h2 h3=>?_⟩,fun y c h=>⟨_,x.cell y c h⟩,e0.hok.fresh (Nat.le_refl _),fun y c h=>?_,fun p hp=>absurd (show p∈([]:List (Addr×Obj))from hp) (by simp),e0.hok.kept hk,?_⟩
 ·exact name_of_addr x.apart (PySem.mem_of_lookup h1) (PySem.mem_of_lookup h2)
 ·have hy:scope.names.lookup y=some .cell\/scope.names.lookup y=some .free:=hy
  rcases hy with hy|hy
  ·exact Zdc hy
  ·exact absurd rfl (S.nofree _ (PySem.mem_of_lookup hy))
 ·exact Nat.le_of_lt (x.above y c (PySem.mem_of_lookup h))
 ·have hi:i<vs.length:=by
   unfold start at h2
   by_cases hi:i<vs.length
   ·exact hi
   ·rw[List.getElem?_append_right (by simpa using hi)]at h2
    rw[List.getElem?_replicate]at h2
    split at h2<;>cases h2
  have ha:vs[i]?=some v:=by
   unfold start at h2
   rw[List.getElem?_append_left (by simpa using hi),List.getElem?_map]at h2
   cases e:vs[i]? with
   |none=>rw[e]at h2;cases h2
   |some a=>rw[e]at h2;cases h2;rfl
  obtain⟨u,hu,rv⟩:=r.get ha
  have hp:ps[i]?=some y:=by
   rw[<-S.pre,List.getElem?_take_of_lt (by omega)];exact h1
  have ndP:ps.Nodup:=by rw[<-S.pre];exact S.nd.sublist (List.take_sublist _ _)
  refine⟨u,rv,?_⟩
  rcases S.par y (List.mem_of_getElem? hp)with k|k
  ·exact .inl ⟨k,ZbW ndP hp hu k⟩
  ·obtain⟨c,e⟩:=Zdc (n:=s.heap.objs.size+1) k
   refine .inr ⟨.inl k,c,e,?_⟩
   have q:=x.cell y c e
   rw[ZbY ndP hp hu (by show scope.names.lookup y≠_;rw[k];decide)]at q
   exact q
 ·exact e0.hok.fresh (Nat.le_of_lt (x.above y c (PySem.mem_of_lookup h)))
 ·unfold start
  show _=N.length
  rw[List.length_append,List.length_map,List.length_replicate]
  omega
theorem ZcU{CX:CXT}{P:Program}{w:World}{K:PySem.W.Frag}{mg:Str->Option Value}{base:Heap}{k:Nat}{f:Addr}{name qual:Str}{params:Arguments}{body:List Stmt}{scope:Scope}{dV kV doc pm cdv ct oc:Value}{an od:Option Addr}
  {osl:Array (Option Value)}{N ps:List Str}{sp:Sp}(lk:K.lookup f=some ⟨oc,od,.func (PySem.W.fnOf name qual params body scope dV kV doc pm an cdv ct),osl⟩)(hcd:PySem.W.codeIn K cdv qual=true)(S:Zx N ps scope)
  (len:∀vs H Q E,sp vs H Q E->vs.length=ps.length)
  (hbody:∀(A:Around)(outer:List Env)(s:Shared)(H:Hp)(vs:List V)(Q:VK)(E:XK),Room k (A.deeper (envOfC qual scope s.heap.objs.size f cdv))->sp vs H Q E->
   ∃t,PSs (ZF CX P w K mg base N qual scope f cdv A outer s H E) body t/\t {nx:=fun _ H'=>Q .non H',rt:=Q} (start N vs) H):
  FnOk P w K mg base CX (k+1) f (PySem.W.fnOf name qual params body scope dV kV doc pm an cdv ct) ps sp:=by
 refine⟨len,fun A outer s H args us vs Q E hr e0 hb r hsp=>?_⟩
 have hl:=len _ _ _ _ hsp
 have KX:K.In s.heap:=e0.mod.kin.keeps fun b o e=>(e0.bs b o e).1
 have lim:s.heap.NoLimit:=e0.mod.nolimit.keeps fun b o e=>(e0.bs b o e).1
 have hkind:∀y∈ps.zip us,scope.names.lookup y.1=some .local\/(scope.names.lookup y.1=some .cell/\((cellsFrom (s.heap.objs.size+1) scope.names []).lookup y.1).isSome=true):=fun⟨n,v⟩ hy=>by
  rcases S.par n (List.of_mem_zip hy).1 with q|q
  ·exact .inl q
  ·exact .inr ⟨q,PySem.W.cellsFrom_some _ _ _ (.inl q)⟩
 refine codeAny_call_function hr.depth (KX _ _ lk) rfl S.co S.gen rfl (PySem.W.codeRec_of KX hcd) (hb _ _ _ _ ?_)
 refine wpAny_newFunctionEnv_cells S.kind hkind fun env he s1 x=>?_
 subst he
 refine⟨lim.keeps x.toInCall.keep,codeAny_func ?_⟩
 obtain⟨t,ht,hq⟩:=hbody A outer s H vs Q E (hr.deeper _) hsp
 have I:Inv (ZF CX P w K mg base N qual scope f cdv A outer s H E) [] (start N vs) H s1:=ZeN S hr.hd e0 hl r x
 refine wpAny_mono (ht [] s1 (start N vs) H _ I hq) (fun fl s' hs=>?_) fun e s' hs=>hs
 have fin:∀{σ':St}{H':Hp}{v:V}{u:Value},Inv (ZF CX P w K mg base N qual scope f cdv A outer s H E) [] σ' H' s'->RelV v u->Q v H'->CE outer P w H s Q u s':=
  fun{σ' H' v u} J rv q=>⟨v,H',J.os,J.bare,J.base,J.hok,rv,q⟩
 cases fl with
 |ret u=>
  obtain⟨v,σ',H',J,rv,q⟩:=hs
  exact fin J rv q
 |next=>
  obtain⟨σ',H',J,q⟩:=hs
  exact fin (v:=V.non) (u:=Value.none) J rfl q
 |brk=>
  obtain⟨_,_,_,q⟩:=hs
  exact False.elim q
 |cont=>
  obtain⟨_,_,_,q⟩:=hs
  exact False.elim q
section
variable{X:Cx}{x:Str}{p pos:Pos}{e:Expr}{es:List Expr}{t:TA}{id T:String}{r:List V->Hp->VK->Prop}
def tCB(r:List V->Hp->VK->Prop)(t:TA):TE:=fun σ H Q=>t σ H fun vs H1=>r vs H1 Q
theorem Zn(hc:CallR X (.builtin id) r)(hg:Gl X x)(hm:X.mg x=none)(hv:bootBuiltins x=some (.builtin id))(ha:PA X (e::es) t)(hn:x≠"__name__":=by decide)(hdb:(x==("__debug__":Str))=false:=by decide)
  (he:starEach (e::es) X.env=(false,eval e X.env)::starEach es X.env:=by rfl)(hpl:(backTo pos (starEach es X.env)).any (·.1)=false:=by rfl):PE X (.Call (.Name x p) (e::es) [] pos) (tCB r t):=by
 intro pins s σ H Q I h
 refine wpAny_Call_Name_kw (Jh I hg hm hv ?_ hn hdb)
 exact PyProof.Rows.callWith_builtin1 (thn (ha pos pins s σ H _ I h) fun us s1⟨vs,H1,I1,r1,q1⟩=>hc pins s1 σ H1 vs us Q I1 r1 q1) he hpl
theorem Z9(hc:CallR X (.type T) r)(hg:Gl X x)(hm:X.mg x=none)(hv:bootBuiltins x=some (.type T))(ha:PA X (e::es) t)(hn:x≠"__name__":=by decide)(hdb:(x==("__debug__":Str))=false:=by decide)
  (he:starEach (e::es) X.env=(false,eval e X.env)::starEach es X.env:=by rfl)(hpl:(backTo pos (starEach es X.env)).any (·.1)=false:=by rfl):PE X (.Call (.Name x p) (e::es) [] pos) (tCB r t):=by
 intro pins s σ H Q I h
 refine wpAny_Call_Name_kw (Jh I hg hm hv ?_ hn hdb)
 exact PyProof.Rows.callWith_type1 (thn (ha pos pins s σ H _ I h) fun us s1⟨vs,H1,I1,r1,q1⟩=>hc pins s1 σ H1 vs us Q I1 r1 q1) he hpl
end
end L2
namespace HT
open PySem PyProof.Rows
section
open PySem.SeqAt
open PySem.AutoSeq1 (wpAny_loadPart')
open PySem.MeetsSeq PySem.MeetsSeq2 PySem.MeetsSeq3
end
section
variable{prog:Program}{w:World}{A:Around}{E:Value->Shared->Prop}{s:Shared}
theorem cat_tup{t b:Addr}{vs ws:List Value}{Q:Value->Shared->Prop}(ht:IsTup s.heap t vs.toArray)(hb:IsTup s.heap b ws.toArray)(hv:vs≠[])
  (h1:ws=[]->Q (.ref t) s)(h2:ws≠[]->Q (.ref s.heap.objs.size) {s with heap:=s.heap.push {cls:= .type "tuple",data:= .seq (vs++ws).toArray}})
  (hsz:vs.length+ws.length<=sizeLine):wpAny (model prog w) A (binaryOp .Add (.ref t) (.ref b)) Q E s:=by
 obtain⟨⟨cls,dd,data,sl⟩,ho,hc,n,hd⟩:=id ht
 obtain⟨⟨cls2,dd2,data2,sl2⟩,ho2,hc2,n2,hd2⟩:=id hb
 simp only at hc hd hc2 hd2
 subst hc hd hc2 hd2
 have e:vs.toArray++ws.toArray=(vs++ws).toArray:=by simp
 by_cases hw:ws=[]
 ·exact concat_meets ⟨_,ho,rfl⟩ ⟨_,ho2,rfl⟩ noFill_tuple_add seq_tuple_add PySem.F.slot_tuple_add PySem.F.entry_tuple_add (PySem.F.args_tuple_add_2 _ _)
   (tuple_addW1 t b vs.toArray ws.toArray n n2 dd dd2 sl sl2 (by simpa using hv) (by simp[hw])) ⟨ho,ho2,h1 hw⟩
 ·refine concat_meets ⟨_,ho,rfl⟩ ⟨_,ho2,rfl⟩ noFill_tuple_add seq_tuple_add PySem.F.slot_tuple_add PySem.F.entry_tuple_add (PySem.F.args_tuple_add_2 _ _)
   (tuple_addW2 t b vs.toArray ws.toArray n n2 dd dd2 sl sl2 (by simpa using hv) (by simpa using hw) (by rw[List.size_toArray,List.size_toArray];exact hsz)) ⟨ho,ho2,?_⟩
  rw[e]
  exact h2 hw
def sIx(n d:Nat):Option Int->Nat
 |none=>d
 |some v=>if v<0 then(v+(n:Int)).toNat else min v.toNat n
theorem sIx_none(n d:Nat):sIx n d none=d:=rfl
theorem sIx_nat(n d k:Nat):sIx n d (some (k:Int))=min k n:=by
 show(if(k:Int)<0 then((k:Int)+(n:Int)).toNat else min (k:Int).toNat n)=min k n
 rw[if_neg (by omega),Int.toNat_natCast]
theorem Zic(n d:Nat)(hd:d<=n)(o:Option Int):sIx n d o<=n:=by
 cases o with
 |none=>exact hd
 |some v=>
  show(if v<0 then(v+(n:Int)).toNat else min v.toNat n)<=n
  by_cases hv:v<0
  ·rw[if_pos hv];omega
  ·rw[if_neg hv];exact Nat.min_le_right _ _
theorem Zet(v:Int)(n d:Nat):(if v<0 then max (v+(n:Int)) 0 else min v (n:Int))=((sIx n d (some v):Nat):Int):=by
 show(if v<0 then max (v+(n:Int)) 0 else min v (n:Int))=(((if v<0 then(v+(n:Int)).toNat else min v.toNat n):Nat):Int)
 by_cases hv:v<0
 ·simp only[if_pos hv];omega
 ·simp only[if_neg hv];omega
theorem ZdK(lo hi:Option Int)(n:Nat):Builtin.Slice.sliceAdjust lo hi 1 (n:Int)=(((sIx n 0 lo:Nat):Int),((sIx n n hi:Nat):Int)):=by
 have h1:¬((1:Int)<0):=by omega
 unfold Builtin.Slice.sliceAdjust
 simp only[h1,if_false]
 refine Prod.ext ?_ ?_
 ·cases lo with
  |none=>rfl
  |some v=>exact Zet v n 0
 ·cases hi with
  |none=>rfl
  |some v=>exact Zet v n n
theorem Zdz(i j:Nat):Builtin.Slice.slicePlaces (i:Int) (j:Int) 1=j-i:=by
 unfold Builtin.Slice.slicePlaces
 have h1:(1:Int)>0:=by omega
 simp only[h1,if_true,Int.ediv_one]
 split<;>omega
theorem ZaW{v:Value}{o:Option Int}{Q:Option Int->Shared->Prop}(p:IsPart v o)(h:Q o s):wpAny (model prog w) A (Builtin.Slice.slicePartIndex v) Q E s:=by
 cases p with
 |none=>exact slicePart_none h
 |int i t=>exact slicePart_int h
theorem Zar{sl:Addr}{vl vu:Value}{lo hi:Option Int}{n:Nat}{Q:Int×Int×Nat->Shared->Prop}(hs:s.heap.IsSliceOf sl vl vu .none)(pl:IsPart vl lo)(pu:IsPart vu hi)
  (h:Q (((sIx n 0 lo:Nat):Int),1,sIx n n hi-sIx n 0 lo) s):wpAny (model prog w) A (Builtin.Slice.sliceApplied (.ref sl) (pure (n:Int))) Q E s:=by
 obtain⟨os,hos,hcs,hds⟩:=id hs
 unfold Builtin.Slice.sliceApplied Builtin.Slice.sliceFields
 refine wpAny_bind (wpAny_bind (wpAny_field hos hds (x:=vl) rfl (wpAny_bind (wpAny_field hos hds (x:=vu) rfl (wpAny_bind (wpAny_field hos hds (x:= .none) rfl (wpAny_pure ?_)))))))
 refine wpAny_bind (slicePart_none ?_)
 show wpAny _ _ (if((1:Int)==0)=true then _ else _) _ _ s
 rw[if_neg (by decide)]
 refine wpAny_bind (ZaW pl (wpAny_bind (ZaW pu (wpAny_bind (wpAny_pure ?_)))))
 show wpAny _ _ (match Builtin.Slice.sliceAdjust lo hi 1 (n:Int)with|(lo,hi)=>pure (lo,(1:Int),Builtin.Slice.slicePlaces lo hi 1)) _ _ s
 rw[ZdK lo hi n]
 show wpAny _ _ (pure (((sIx n 0 lo:Nat):Int),(1:Int),Builtin.Slice.slicePlaces ((sIx n 0 lo:Nat):Int) ((sIx n n hi:Nat):Int) 1)) _ _ s
 rw[Zdz]
 exact wpAny_pure h
theorem Zfx(xs:Array Value)(i k:Nat):((List.range k).filterMap fun(m:Nat)=>xs[((i:Int)+(m:Int)*1).toNat]?).toArray=((xs.toList.drop i).take k).toArray:=by
 have e:(fun(m:Nat)=>xs[((i:Int)+(m:Int)*1).toNat]?)=fun m=>xs[i+m]?:=by
  funext m
  have:((i:Int)+(m:Int)*1).toNat=i+m:=by omega
  rw[this]
 rw[e]
 have:=pick_run xs i k
 rw[List.filterMap_map]at this
 have e2:((fun x=>xs[x]?)∘fun x=>i+x)=fun m=>xs[i+m]?:=rfl
 rw[e2]at this
 rw[this]
theorem getItem_tuple_cut{t sl:Addr}{items:Array Value}{vl vu:Value}{lo hi:Option Int}{Q:Value->Shared->Prop}(ht:IsTup s.heap t items)(hs:s.heap.IsSliceOf sl vl vu .none)(pl:IsPart vl lo)(pu:IsPart vu hi)
  (hw:¬(sIx items.size 0 lo=0/\sIx items.size items.size hi=items.size))
  (h:Q (.ref s.heap.objs.size) {s with heap:=s.heap.push {cls:= .type "tuple",data:= .seq ((items.toList.drop (sIx items.size 0 lo)).take (sIx items.size items.size hi-sIx items.size 0 lo)).toArray}})
  (hsz:items.size<=sizeLine):wpAny (model prog w) A (getItem (.ref t) (.ref sl)) Q E s:=by
 have htake:sizeOk (.seq ((items.toList.drop (sIx items.size 0 lo)).take (sIx items.size items.size hi-sIx items.size 0 lo)).toArray):=by
  show((items.toList.drop (sIx items.size 0 lo)).take (sIx items.size items.size hi-sIx items.size 0 lo)).toArray.size<=sizeLine
  rw[List.size_toArray,List.length_take,List.length_drop,Array.length_toList]
  omega
 have hj:sIx items.size items.size hi<=items.size:=Zic _ _ (Nat.le_refl _) hi
 obtain⟨os,hos,hcs,hds⟩:=id hs
 have hTs:s.TypeIs (.ref sl) "slice":=⟨os,hos,hcs⟩
 unfold getItem
 try with_reducible refine wpAny_holding ?_
 first|refine wpAny_bind (wpAny_pure ?_)|skip
 refine wpAny_bind (wpAny_sequenceKey ht.typeIs (by decide) ?_)
 refine wpAny_bind (wpAny_callSpecial?_slot (name:=Str.ofString "__getitem__") ht.typeIs PyProof.Rows.slot_tuple_getitem
  (wpAny_call_entry PyProof.Rows.slot_tuple_getitem ht.typeIs entry_tuple_getitem ?_ (args_tuple_getitem _ _)))
 show wpAny _ _ (Builtin.Tuple.tupleItemsOf (.ref t)>>=_) _ _ s
 refine wpAny_bind (tupleItemsOf_ ht ?_)
 refine wpAny_bind (wpAny_typeOf hTs ?_)
 rw[if_pos (by decide)]
 refine wpAny_bind (Zar hs pl pu ?_)
 have hno:¬((((sIx items.size 0 lo:Nat):Int)==0&&(1:Int)==1&&(sIx items.size items.size hi-sIx items.size 0 lo)==items.size)=true):=by
  intro q
  rw[Bool.and_eq_true,Bool.and_eq_true]at q
  have q1:((sIx items.size 0 lo:Nat):Int)=0:=eq_of_beq q.1.1
  have q2:sIx items.size items.size hi-sIx items.size 0 lo=items.size:=eq_of_beq q.2
  exact hw ⟨by omega,by omega⟩
 show wpAny _ _ (if(((sIx items.size 0 lo:Nat):Int)==0&&(1:Int)==1&&(sIx items.size items.size hi-sIx items.size 0 lo)==items.size)=true then _ else _) _ _ s
 rw[if_neg hno,Zfx]
 first
  |exact wpAny_bind (m:=Builtin.Tuple.tupleExact _) (wpAny_newObj_type (wpAny_pure ⟨_,rfl,wpAny_pure h⟩) htake)
  |exact wpAny_bind (m:=Builtin.Tuple.tupleExact _) (wpAny_newObj_type (wpAny_bind (wpAny_pure (wpAny_pure ⟨_,rfl,wpAny_pure h⟩))) htake)
  |exact wpAny_bind (wpAny_bind (m:=Builtin.Tuple.tupleExact _) (wpAny_newObj_type (wpAny_pure (wpAny_pure ⟨_,rfl,wpAny_pure h⟩)) htake))
  |exact wpAny_bind (wpAny_bind (m:=Builtin.Tuple.tupleExact _) (wpAny_newObj_type (wpAny_pure ⟨_,rfl,wpAny_pure h⟩) htake))
end
end HT
namespace L2
open PySem PySem.Spec PyProof.Rows
abbrev TO:=St->Hp->(Option Int->Hp->Prop)->Prop
def PO(X:Cx)(e:Option Expr)(t:TO):Prop:=
 ∀(pins:List (Addr×Obj))(s:Shared)(σ:St)(H:Hp)(Q:Option Int->Hp->Prop),Inv X pins σ H s->t σ H Q->
  wpAny (model X.prog X.w) X.A (evalPart e X.env) (fun u s'=>∃o H',Inv X pins σ H' s'/\IsPart u o/\Q o H') X.xe s
def tNoPart:TO:=fun _ H Q=>Q none H
def ZiU(t:TE):TO:=fun σ H Q=>t σ H fun x H1=>∃i,x= .int i/\Q (some i) H1
theorem intsAre_of{ns:List Int}:∀{us:List Value},Vals (ns.map V.int) us->IntsAre us ns:=by
 induction ns with
 |nil=>intro us r;rw[List.map_nil]at r;cases r;exact .nil
 |cons n ns ih=>
  intro us r
  rw[List.map_cons]at r
  cases r with
  |cons r1 r2=>
   obtain⟨t,e⟩:=r1
   subst e
   exact .cons n t (ih r2)
section
variable{X:Cx}{e:Expr}{te:TE}{lo hi:Option Expr}{tl th:TO}{pos p2:Pos}
theorem YF:PO X none tNoPart:=by
 intro pins s σ H Q I h
 rw[evalPart_none]
 exact wpAny_pure ⟨none,H,I,.none,h⟩
theorem YE(h:PE X e te):PO X (some e) (ZiU te):=by
 intro pins s σ H Q I hw
 rw[evalPart_some]
 refine thn (h pins s σ H _ I hw) fun u s1⟨x,H1,I1,r1,q1⟩=>?_
 obtain⟨i,rfl,q⟩:=q1
 obtain⟨t,rfl⟩:=r1
 exact⟨some i,H1,I1,.int i t,q⟩
def SlR(X:Cx)(r:V->Option Int->Option Int->Hp->VK->Prop):Prop:=
 ∀(pins:List (Addr×Obj))(s:Shared)(σ:St)(H:Hp)(x:V)(v vl vu:Value)(lo hi:Option Int)(sl:Addr)(Q:VK),Inv X pins σ H s->RelV x v->s.heap.IsSliceOf sl vl vu .none->IsPart vl lo->IsPart vu hi->r x lo hi H Q->
  ∃T id,typeLookup (.type T) "__getitem__"=pure (some (.builtin id))/\s.TypeIs v T/\wpAny (model X.prog X.w) X.A (getItem v (.ref sl)) (EP X pins σ Q) X.xe s
def tSl(r:V->Option Int->Option Int->Hp->VK->Prop)(te:TE)(tl th:TO):TE:=fun σ H Q=>te σ H fun x H1=>tl σ H1 fun l H2=>th σ H2 fun u H3=>r x l u H3 Q
theorem Yx{r:V->Option Int->Option Int->Hp->VK->Prop}(hr:SlR X r)(he:PE X e te)(hl:PO X lo tl)(hu:PO X hi th):PE X (.Subscript e (.Slice lo hi none p2) pos) (tSl r te tl th):=by
 intro pins s σ H Q I h
 refine Subscript_ (thn (he pins s σ H _ I h) fun v s1⟨x,H1,I1,r1,q1⟩=>?_)
 refine wpAny_Slice (thn (hl pins s1 σ H1 _ I1 q1) fun vl s2⟨l,H2,I2,pl,q2⟩=>thn (hu pins s2 σ H2 _ I2 q2) fun vu s3⟨u,H3,I3,pu,q3⟩=>?_)
 rw[evalPart_none]
 refine wpAny_pure ?_
 have I4:Inv X pins σ H3 {s3 with heap:=s3.heap.push {cls:= .type "slice",data:= .fields #[vl,vu,.none]}}:=I3.kept (t':=s3.toks) fun b ob q=>Heap.get?_push_of_some _ q
 obtain⟨T,id,hT,ht,hg⟩:=hr pins {s3 with heap:=s3.heap.push {cls:= .type "slice",data:= .fields #[vl,vu,.none]}} σ H3 x v vl vu l u s3.heap.objs.size Q I4 r1 (Heap.IsSliceOf.new ..) pl pu q3
 show wpAny (model X.prog X.w) X.A (subscriptTail e (.Slice lo hi none p2) v (.ref s3.heap.objs.size)) (EP X pins σ Q) X.xe {s3 with heap:=s3.heap.push {cls:= .type "slice",data:= .fields #[vl,vu,.none]}}
 exact tail_any (ops:=[.ref s3.heap.objs.size,v]) ht hT hg (by with_unfolding_all rfl)
def Ys(xs:List V)(lo hi:Option Int):List V:=(xs.drop (HT.sIx xs.length 0 lo)).take (HT.sIx xs.length xs.length hi-HT.sIx xs.length 0 lo)
theorem ZK(xs:List V)(lo hi:Option Int):(Ys xs lo hi).length<=xs.length:=by
 unfold Ys
 rw[List.length_take,List.length_drop]
 omega
def Zlb(K:PySem.W.Frag):V->Option Int->Option Int->Hp->VK->Prop:=fun x lo hi H Q=>∃a xs,x= .ref a/\SqT K H a xs/\
 ¬(HT.sIx xs.length 0 lo=0/\HT.sIx xs.length xs.length hi=xs.length)/\∀p,H p=none->Q (.ref p) (upd H p (.tup (Ys xs lo hi)))
theorem Zds:SlR X (Zlb X.K):=by
 intro pins s σ H x v vl vu lo hi sl Q I rx hs pl pu h
 obtain⟨a,xs,rfl,hx,hw,q⟩:=h
 cases rx
 obtain⟨its,r,ht,hz⟩:=I.tuple hx
 have hlen:its.toArray.size=xs.length:=by rw[List.size_toArray];exact r.length.symm
 refine⟨"tuple",_,PyProof.Rows.slot_tuple_getitem.lookup,ht.typeIs,?_⟩
 refine HT.getItem_tuple_cut ht hs pl pu (by rw[hlen];exact hw) ?_ (by rw[hlen];exact hz)
 rw[hlen]
 refine⟨.ref s.heap.objs.size,_,I.laid (t':=s.toks) (o:= .tup (Ys xs lo hi)) (fun b ob q=>Heap.get?_push_of_some _ q) (Nat.le_refl _) ?_,rfl,q _ (I.hok.fresh (Nat.le_refl _))⟩
 exact⟨Nat.le_trans (ZK xs lo hi) hz,_,(r.drop (HT.sIx xs.length 0 lo)).take (HT.sIx xs.length xs.length hi-HT.sIx xs.length 0 lo),IsTup.new _ _⟩
def Zjp(K:PySem.W.Frag):R2:=fun x y H Q=>∃a b xs ys,x= .ref a/\y= .ref b/\SqT K H a xs/\SqT K H b ys/\xs≠[]/\xs.length+ys.length<=sizeLine/\
 (ys=[]->Q (.ref a) H)/\(ys≠[]->∀p,H p=none->Q (.ref p) (upd H p (.tup (xs++ys))))
theorem Vals.nil_iff{xs:List V}{us:List Value}(r:Vals xs us):us=[]↔xs=[]:=by
 cases r with
 |nil=>simp
 |cons _ _=>simp
theorem ZgK:OpR X (binaryOp .Add) (Zjp X.K):=by
 intro pins s σ H x y v u Q I rx ry h
 obtain⟨a,b,xs,ys,rfl,rfl,ha,hb,hx,hz,q1,q2⟩:=h
 cases rx
 cases ry
 obtain⟨its,r1,p1,_⟩:=I.tuple ha
 obtain⟨its2,r2,p2,_⟩:=I.tuple hb
 refine HT.cat_tup p1 p2 (fun z=>hx (r1.nil_iff.mp z)) (fun z=>⟨.ref a,H,I,rfl,q1 (r2.nil_iff.mp z)⟩) (fun z=>?_) (by rw[<-r1.length,<-r2.length];exact hz)
 refine⟨.ref s.heap.objs.size,_,I.laid (t':=s.toks) (o:= .tup (xs++ys)) (fun b ob q=>Heap.get?_push_of_some _ q) (Nat.le_refl _) ?_,rfl,q2 (fun w=>z (r2.nil_iff.mpr w)) _ (I.hok.fresh (Nat.le_refl _))⟩
 exact⟨by rw[List.length_append];exact hz,_,r1.append r2,IsTup.new _ _⟩
end
def ixN(n:Nat)(i:Int):Option Nat:=if 0<=i then(if i<n then some i.toNat else none)else if-(n:Int)<=i then some (i+n).toNat else none
def atI{α:Type}(xs:List α)(i:Int):Option α:=(ixN xs.length i).bind fun j=>xs[j]?
theorem Zej{n:Nat}{i:Int}{j:Nat}(h:ixN n i=some j):seqIndex? i n=some j/\j<n/\ -(n:Int)<=i/\i<n:=by
 unfold ixN at h
 by_cases h0:0<=i
 ·rw[if_pos h0]at h
  by_cases h1:i<n
  ·rw[if_pos h1]at h
   have e:i.toNat=j:=Option.some.inj h
   exact⟨by rw[seqIndex_of h0 h1,e],by omega,by omega,h1⟩
  ·rw[if_neg h1]at h;cases h
 ·rw[if_neg h0]at h
  by_cases h1: -(n:Int)<=i
  ·rw[if_pos h1]at h
   have e:(i+n).toNat=j:=Option.some.inj h
   exact⟨by rw[seqIndex_neg (by omega) h1,e],by omega,h1,by omega⟩
  ·rw[if_neg h1]at h;cases h
theorem Ze0{α:Type}{xs:List α}{i:Int}{v:α}(h:atI xs i=some v):∃j,seqIndex? i xs.length=some j/\xs[j]?=some v/\j<xs.length/\ -(xs.length:Int)<=i/\i<xs.length:=by
 unfold atI at h
 cases e:ixN xs.length i with
 |none=>rw[e]at h;cases h
 |some j=>
  rw[e]at h
  obtain⟨h1,h2,h3,h4⟩:=Zej e
  exact⟨j,h1,h,h2,h3,h4⟩
theorem ZH{α:Type}{xs:List α}{j:Nat}{v:α}(h:xs[j]?=some v):atI xs (j:Int)=some v:=by
 have hj:j<xs.length:=(List.getElem?_eq_some_iff.mp h).1
 have e:ixN xs.length (j:Int)=some j:=by
  unfold ixN
  rw[if_pos (by omega),if_pos (by omega)];simp
 unfold atI;rw[e];exact h
def Zh0(b:Expr):Prop:=∀o i,subscripted b false o i=operate [o,i] (getItem o i)
def IxR(X:Cx)(r:R2):Prop:=
 ∀(value slice:Expr)(pins:List (Addr×Obj))(s:Shared)(σ:St)(H:Hp)(x y:V)(v u:Value)(Q:VK),Inv X pins σ H s->RelV x v->RelV y u->r x y H Q->
  subscripted slice false v u=operate [v,u] (getItem v u)->wpAny (model X.prog X.w) X.A (subscriptTail value slice v u) (EP X pins σ Q) X.xe s
def MtR(X:Cx)(id:String)(r:V->List V->Hp->VK->Prop):Prop:=
 ∀(pins:List (Addr×Obj))(s:Shared)(σ:St)(H:Hp)(x:V)(xs:List V)(v:Value)(us:List Value)(Q:VK),Inv X pins σ H s->RelV x v->Vals xs us->r x xs H Q->
  wpAny (model X.prog X.w) X.A (call (.builtin id) (v::us)) (EP X pins σ Q) X.xe s
section
variable{X:Cx}{a b:Expr}{ta tb:TE}{pos:Pos}
theorem Zo{r:R2}(hr:IxR X r)(ha:PE X a ta)(hb:PE X b tb)(hs:Zh0 b):PE X (.Subscript a b pos) (tOp r ta tb):=by
 intro pins s σ H Q I h
 exact Subscript_ (ZiN ha hb I h fun v u s2 x y H2 I2 rx ry q=>hr a b pins s2 σ H2 x y v u Q I2 rx ry q (hs _ _))
def Zle(K:PySem.W.Frag):R2:=fun x y H Q=>∃p xs i v,x= .ref p/\y= .int i/\SqL K H p xs/\atI xs i=some v/\Q v H
def ZgA(K:PySem.W.Frag):R2:=fun x y H Q=>∃p xs i v,x= .ref p/\y= .int i/\SqT K H p xs/\atI xs i=some v/\Q v H
theorem ZV:IxR X (Zle X.K):=by
 intro value slice pins s σ H x y v u Q I rx ry h hs
 obtain⟨p,xs,i,z,rfl,rfl,hq,he,q⟩:=h
 cases rx
 obtain⟨t,rfl⟩:=ry
 obtain⟨its,r,pl,hz⟩:=I.list hq
 obtain⟨j,h1,h2,h3,h4,h5⟩:=Ze0 he
 obtain⟨w,ew,rw'⟩:=r.get h2
 have hl:=r.length
 have hn:=Zay
 have fin:EP X pins σ Q w s:=⟨z,H,I,rw',q⟩
 by_cases h0:0<=i
 ·have hj:i.toNat=j:=by
   rw[seqIndex_of h0 h5]at h1
   exact Option.some.inj h1
  exact item_listR pl.isList h0 (by omega) (by rw[hj];simpa using ew) fin hs
 ·have hj:(i+(its.toArray.size:Int)).toNat=j:=by
   rw[seqIndex_neg (by omega) h4]at h1
   rw[List.size_toArray,<-hl]
   exact Option.some.inj h1
  exact subscriptTail_builtinR (x:=w) pl.isList.typeIs slot_list_getitem.lookup
   (wpAny_getItem_list_neg (Q:=fun r s'=>r=w/\EP X pins σ Q r s') pl.isList (by omega) (by rw[List.size_toArray]<;>omega) (by omega) (by rw[hj];simpa using ew) ⟨rfl,fin⟩) hs
theorem Zl:IxR X (ZgA X.K):=by
 intro value slice pins s σ H x y v u Q I rx ry h hs
 obtain⟨p,xs,i,z,rfl,rfl,hq,he,q⟩:=h
 cases rx
 obtain⟨t,rfl⟩:=ry
 obtain⟨its,r,pl,hz⟩:=I.tuple hq
 obtain⟨j,h1,h2,h3,h4,h5⟩:=Ze0 he
 obtain⟨w,ew,rw'⟩:=r.get h2
 have hl:=r.length
 have hn:=Zay
 have fin:EP X pins σ Q w s:=⟨z,H,I,rw',q⟩
 exact subscriptTail_builtinR (x:=w) pl.typeIs slot_tuple_getitem.lookup
  (getItem_tuple (j:=j) (Q:=fun r s'=>r=w/\EP X pins σ Q r s') pl (by omega) (by omega) (by rw[List.size_toArray,<-hl];exact h1) (by simpa using ew) ⟨rfl,fin⟩) hs
theorem ZdA(its:List Value)(n j:Nat)(u:Value):Obj.mapSeq (·.setIfInBounds j u) {cls:= .type "list",data:= .seq its.toArray n}={cls:= .type "list",data:= .seq (its.set j u).toArray n}:=by
 simp[Obj.mapSeq]
theorem Inv.lst{pins:List (Addr×Obj)}{σ:St}{H:Hp}{s:Shared}{p:Addr}{xs:List V}(I:Inv X pins σ H s)(h:H p=some (.lst xs)):
  ∃(its:List Value)(n:Nat),Vals xs its/\s.heap.get? p=some {cls:= .type "list",data:= .seq its.toArray n}/\xs.length<=sizeLine:=by
 obtain⟨z,its,n,r,e⟩:=I.hok p _ h
 exact⟨its,n,r,e,z⟩
theorem Inv.lstUpd{pins:List (Addr×Obj)}{σ:St}{H:Hp}{s:Shared}{p:Addr}{xs ys:List V}{its its':List Value}{n n':Nat}{f:Obj->Obj}(I:Inv X pins σ H s)(h:H p=some (.lst xs))
  (ho:s.heap.get? p=some {cls:= .type "list",data:= .seq its.toArray n})(hf:f {cls:= .type "list",data:= .seq its.toArray n}={cls:= .type "list",data:= .seq its'.toArray n'})(r:Vals ys its')(hz:ys.length<=sizeLine)(t:Nat):
  Inv X pins σ (upd H p (.lst ys)) {s with heap:=s.heap.update p f,toks:=t}:=by
 have e:(s.heap.update p f).get? p=some {cls:= .type "list",data:= .seq its'.toArray n'}:=by
  rw[Heap.get?_update_self f ho (by rw[hf]<;>rfl),hf]
 refine I.write (x:=p) (e:=p) (by rw[h];trivial) (.inl rfl) (fun b u hb q=>(Heap.get?_update_other _ _ (Ne.symm hb)).trans q) ⟨_,e⟩ ?_
 exact⟨hz,its',n',r,e⟩
def rSetL:V->V->V->Hp->(Hp->Prop)->Prop:=fun o i v H Q=>∃p xs k j,o= .ref p/\i= .int k/\H p=some (.lst xs)/\ixN xs.length k=some j/\Q (upd H p (.lst (xs.set j v)))
theorem set_list:Zh1 X rSetL:=by
 intro pins s σ H o i v ov iv u Q I ro ri rv h
 obtain⟨p,xs,k,j,rfl,rfl,hp,hj,q⟩:=h
 cases ro
 obtain⟨t,rfl⟩:=ri
 obtain⟨its,n,r,ho,hz⟩:=I.lst hp
 obtain⟨h1,h2,h3,h4⟩:=Zej hj
 have hl:=r.length
 have hn:=Zay
 have I':Inv X pins σ (upd H p (.lst (xs.set j v))) {s with heap:=s.heap.update p (Obj.mapSeq (·.setIfInBounds j u))}:=
  I.lstUpd hp ho (ZdA its n j u) (r.set rv j) (by rw[List.length_set];exact hz) s.toks
 by_cases h0:0<=k
 ·have hk:k.toNat=j:=by
   rw[seqIndex_of h0 h4]at h1
   exact Option.some.inj h1
  exact PySem.W.ki_setAt ho h0 (by omega) (by rw[List.size_toArray,<-hl];exact h4) (by rw[hk];exact⟨_,I',q⟩)
 ·have hk:(k+(its.toArray.size:Int)).toNat=j:=by
   rw[seqIndex_neg (by omega) h3]at h1
   rw[List.size_toArray,<-hl]
   exact Option.some.inj h1
  exact PySem.W.ki_setBack ho (by omega) (by rw[List.size_toArray,<-hl];exact h3) (by omega) (by rw[hk];exact⟨_,I',q⟩)
theorem Zcg(lo hi:Option Int)(n:Nat):(sliceBounds lo hi none n).1=((HT.sIx n 0 lo:Nat):Int)/\(sliceBounds lo hi none n).2.1=((HT.sIx n n hi:Nat):Int)/\(sliceBounds lo hi none n).2.2=1:=by
 refine⟨?_,?_,rfl⟩
 ·cases lo with
  |none=>simp[sliceBounds,HT.sIx]
  |some i=>
   simp only[sliceBounds,HT.sIx,Option.getD_none,show(1:Int)>0 by decide,if_true]
   by_cases h:i<0
   ·simp only[h,if_true]<;>omega
   ·simp only[h,if_false]<;>omega
 ·cases hi with
  |none=>simp[sliceBounds,HT.sIx]
  |some i=>
   simp only[sliceBounds,HT.sIx,Option.getD_none,show(1:Int)>0 by decide,if_true]
   by_cases h:i<0
   ·simp only[h,if_true]<;>omega
   ·simp only[h,if_false]<;>omega
theorem Zb4(its:List Value)(lo hi:Option Int):slicePick its.toArray lo hi none=((its.drop (HT.sIx its.length 0 lo)).take (HT.sIx its.length its.length hi-HT.sIx its.length 0 lo)).toArray:=by
 obtain⟨h1,h2,h3⟩:=Zcg lo hi its.toArray.size
 unfold slicePick
 rw[h1,h2,h3]
 simp only[sliceRange_one,pick_run,List.size_toArray]<;>rfl
def Zlc(K:PySem.W.Frag):V->Option Int->Option Int->Hp->VK->Prop:=fun x lo hi H Q=>∃a xs,x= .ref a/\SqL K H a xs/\∀p,H p=none->Q (.ref p) (upd H p (.lst (Ys xs lo hi)))
theorem J6:SlR X (Zlc X.K):=by
 intro pins s σ H x v vl vu lo hi sl Q I rx hs pl pu h
 obtain⟨a,xs,rfl,hx,q⟩:=h
 cases rx
 obtain⟨its,r,ht,hz⟩:=I.list hx
 have hlen:=r.length
 refine⟨"list",_,slot_list_getitem.lookup,ht.isList.typeIs,?_⟩
 refine wpAny_getItem_list_slice ht.isList hs pl pu .none (by simp) ?_ (by rw[List.size_toArray]<;>omega)
 rw[Zb4,<-hlen]
 refine⟨.ref s.heap.objs.size,_,I.laid (t':=s.toks) (o:= .lst (Ys xs lo hi)) (fun b ob q=>Heap.get?_push_of_some _ q) (Nat.le_refl _) ?_,rfl,q _ (I.hok.fresh (Nat.le_refl _))⟩
 exact⟨Nat.le_trans (ZK xs lo hi) hz,_,0,(r.drop (HT.sIx xs.length 0 lo)).take (HT.sIx xs.length xs.length hi-HT.sIx xs.length 0 lo),Heap.get?_push_size _ rfl⟩
def JG:V->Bool
 | .non=>true
 | .bl _=>true
 | .int _=>true
 | .str _=>true
 |_=>false
def eqV:V->V->Bool
 | .non,.non=>true
 | .bl a,.bl b=>a==b
 | .bl a,.int b=>(if a then 1 else 0)==b
 | .int a,.bl b=>a==(if b then 1 else 0)
 | .int a,.int b=>a==b
 | .str a,.str b=>a==b
 |_,_=>false
theorem ZiH{A:Around}{s:Shared}{y x:V}{u v:Value}(ry:RelV y u)(rx:RelV x v)(fy:JG y=true)(fx:JG x=true):SeqAt.EqAt A s u v (eqV y x):=by
 cases y with
 |non=>
  cases ry
  cases x with
  |non=>cases rx;exact SeqAt.EqAt.same _
  |bl b=>cases rx;exact SeqAt.EqAt.none_bool b
  |int b=>obtain⟨t,rfl⟩:=rx;exact SeqAt.EqAt.none_int b t
  |str b=>obtain⟨t,rfl⟩:=rx;exact SeqAt.EqAt.none_str b t
  |_=>exact absurd (show false=true from fx) Bool.false_ne_true
 |bl a=>
  cases ry
  cases x with
  |non=>cases rx;exact SeqAt.EqAt.bool_none a
  |bl b=>cases rx;exact SeqAt.EqAt.bool_bool a b
  |int b=>obtain⟨t,rfl⟩:=rx;exact SeqAt.EqAt.bool_int a b t
  |str b=>obtain⟨t,rfl⟩:=rx;exact SeqAt.EqAt.bool_str a b t
  |_=>exact absurd (show false=true from fx) Bool.false_ne_true
 |int a=>
  obtain⟨t',rfl⟩:=ry
  cases x with
  |non=>cases rx;exact SeqAt.EqAt.int_none a t'
  |bl b=>cases rx;exact SeqAt.EqAt.int_bool a t' b
  |int b=>obtain⟨t,rfl⟩:=rx;exact SeqAt.EqAt.int_int a t' b t
  |str b=>obtain⟨t,rfl⟩:=rx;exact SeqAt.EqAt.int_str a t' b t
  |_=>exact absurd (show false=true from fx) Bool.false_ne_true
 |str a=>
  obtain⟨t',rfl⟩:=ry
  cases x with
  |non=>cases rx;exact SeqAt.EqAt.str_none a t'
  |bl b=>cases rx;exact SeqAt.EqAt.str_bool a t' b
  |int b=>obtain⟨t,rfl⟩:=rx;exact SeqAt.EqAt.str_int a t' b t
  |str b=>obtain⟨t,rfl⟩:=rx;exact SeqAt.EqAt.str_str a t' b t
  |_=>exact absurd (show false=true from fx) Bool.false_ne_true
 |_=>exact absurd (show false=true from fy) Bool.false_ne_true
def eqU(x:V)(u:Value):Bool:=match u with
 | .none=>eqV .non x
 | .bool b=>eqV (.bl b) x
 | .int i _=>eqV (.int i) x
 | .str z _=>eqV (.str z) x
 |_=>false
theorem Zgf{x y:V}{u:Value}(r:RelV y u)(f:JG y=true):eqU x u=eqV y x:=by
 cases y with
 |non=>cases r;rfl
 |bl b=>cases r;rfl
 |int i=>obtain⟨t,rfl⟩:=r;rfl
 |str z=>obtain⟨t,rfl⟩:=r;rfl
 |_=>exact absurd (show false=true from f) Bool.false_ne_true
theorem Zak{x:V}:∀{xs:List V}{us:List Value},Vals xs us->xs.all JG=true->us.any (eqU x)=xs.any fun y=>eqV y x
 |_,_,.nil,_=>rfl
 |y::xs,u::us,.cons r t,f=>by
  rw[List.all_cons,Bool.and_eq_true]at f
  rw[List.any_cons,List.any_cons,Zgf r f.1,Zak t f.2]
theorem Jt{A:Around}{s:Shared}{x:V}{v:Value}(rx:RelV x v)(fx:JG x=true):∀{xs:List V}{us:List Value},Vals xs us->xs.all JG=true->∀u∈us,SeqAt.EqAt A s u v (eqU x u)
 |_,_,.nil,_=>fun u hu=>by cases hu
 |y::xs,u::us,.cons r t,f=>fun u' hu=>by
  rw[List.all_cons,Bool.and_eq_true]at f
  rcases List.mem_cons.mp hu with rfl|hu
  ·rw[Zgf r f.1];exact ZiH r rx f.1 fx
  ·exact Jt rx fx t f.2 u' hu
def inV(x:V)(xs:List V):Bool:=xs.any fun y=>eqV y x
def rIn(K:PySem.W.Frag)(neg:Bool):R2:=fun x y H Q=>∃p xs,y= .ref p/\(SqL K H p xs\/SqT K H p xs)/\JG x=true/\xs.all JG=true/\Q (.bl (if neg then !inV x xs else inV x xs)) H
theorem Y1:OpR X (compareOp .In) (rIn X.K false):=by
 intro pins s σ H x y v u Q I rx ry h
 obtain⟨p,xs,rfl,hq,fx,fs,q⟩:=h
 cases ry
 rcases hq with hq|hq
 ·obtain⟨its,r,pl,hz⟩:=I.list hq
  refine SeqAt.in_listAt (eqU x) pl.isList (fun w hw=>Jt rx fx r fs w (by simpa using hw)) ⟨.bl _,H,I,rfl,?_⟩
  rw[show its.toArray.any (eqU x)=its.any (eqU x) by simp,Zak r fs]
  exact q
 ·obtain⟨its,r,pl,hz⟩:=I.tuple hq
  refine SeqAt.in_tupleAt (eqU x) pl (fun w hw=>Jt rx fx r fs w (by simpa using hw)) ⟨.bl _,H,I,rfl,?_⟩
  rw[show its.toArray.any (eqU x)=its.any (eqU x) by simp,Zak r fs]
  exact q
theorem Zcm:OpR X (compareOp .NotIn) (rIn X.K true):=by
 intro pins s σ H x y v u Q I rx ry h
 obtain⟨p,xs,rfl,hq,fx,fs,q⟩:=h
 cases ry
 rcases hq with hq|hq
 ·obtain⟨its,r,pl,hz⟩:=I.list hq
  refine SeqAt.notIn_listAt (eqU x) pl.isList (fun w hw=>Jt rx fx r fs w (by simpa using hw)) ⟨.bl _,H,I,rfl,?_⟩
  rw[show its.toArray.any (eqU x)=its.any (eqU x) by simp,Zak r fs]
  exact q
 ·obtain⟨its,r,pl,hz⟩:=I.tuple hq
  refine SeqAt.notIn_tupleAt (eqU x) pl (fun w hw=>Jt rx fx r fs w (by simpa using hw)) ⟨.bl _,H,I,rfl,?_⟩
  rw[show its.toArray.any (eqU x)=its.any (eqU x) by simp,Zak r fs]
  exact q
theorem Zk:CallR X (.builtin "len") (fun xs H Q=>∃p ys,xs=[.ref p]/\(SqL X.K H p ys\/SqT X.K H p ys)/\Q (.int ys.length) H):=by
 intro pins s σ H xs us Q I r h
 obtain⟨p,ys,rfl,hq,q⟩:=h
 obtain⟨u,rfl,rx⟩:=vals1 r
 cases rx
 have hn:=Zay
 rcases hq with hq|hq
 ·obtain⟨its,r',pl,hz⟩:=I.list hq
  have hlen:=r'.length
  exact Calls.call_len_list pl.isList (by simp only[List.size_toArray]<;>omega) ⟨.int ys.length,H,I.tok _,⟨s.toks+1,by rw[List.size_toArray,hlen]⟩,q⟩
 ·obtain⟨its,r',pl,hz⟩:=I.tuple hq
  have hlen:=r'.length
  exact len_tuple pl (by simp only[List.size_toArray]<;>omega) ⟨.int ys.length,H,I.tok _,⟨s.toks+1,by rw[List.size_toArray,hlen]⟩,q⟩
theorem Zcy:CallR X (.type "list") (fun xs H Q=>∃p ys,xs=[.ref p]/\(SqL X.K H p ys\/SqT X.K H p ys)/\∀l,H l=none->Q (.ref l) (upd H l (.lst ys))):=by
 intro pins s σ H xs us Q I r h
 obtain⟨p,ys,rfl,hq,q⟩:=h
 obtain⟨u,rfl,rx⟩:=vals1 r
 cases rx
 have fin:∀(its:List Value),Vals ys its->ys.length<=sizeLine->∀(h':Heap)(c':Nat),(∀b o',s.heap.get? b=some o'->h'.get? b=some o')->
   h'.get? s.heap.objs.size=some {cls:= .type "list",dict:=none,data:= .seq its.toArray c',slots:=#[]}->EP X pins σ Q (.ref s.heap.objs.size) {s with heap:=h'}:=fun its r' hz h' c' kp e=>
  ⟨.ref s.heap.objs.size,_,I.laid (t':=s.toks) kp (Nat.le_refl _) (show ObjOk X.prog X.w _ h' _ (.lst ys)from⟨hz,its,c',r',e⟩),rfl,q _ (I.hok.fresh (Nat.le_refl _))⟩
 rcases hq with hq|hq
 ·obtain⟨its,r',pl,hz⟩:=I.list hq
  have hlen:=r'.length
  obtain⟨o,ho,hc,n,hd⟩:=pl.isList
  exact call_list_seq p (.inl rfl) ho hc hd (fun h' c' kp e=>fin its r' hz h' c' kp e) (by simp only[List.size_toArray]<;>omega)
 ·obtain⟨its,r',pl,hz⟩:=I.tuple hq
  have hlen:=r'.length
  obtain⟨o,ho,hc,n,hd⟩:=pl
  exact call_list_seq p (.inr rfl) ho hc hd (fun h' c' kp e=>fin its r' hz h' c' kp e) (by simp only[List.size_toArray]<;>omega)
theorem call_tuple_of:CallR X (.type "tuple") (fun xs H Q=>∃p ys,xs=[.ref p]/\((SqL X.K H p ys/\∀l,H l=none->Q (.ref l) (upd H l (.tup ys)))\/(SqT X.K H p ys/\Q (.ref p) H))):=by
 intro pins s σ H xs us Q I r h
 obtain⟨p,ys,rfl,h⟩:=h
 obtain⟨u,rfl,rx⟩:=vals1 r
 cases rx
 rcases h with⟨hq,q⟩|⟨hq,q⟩
 ·obtain⟨its,r',pl,hz⟩:=I.list hq
  have hlen:=r'.length
  refine call_tuple_list pl.isList (fun h' kp=>?_) (by simp only[List.size_toArray]<;>omega)
  have I1:Inv X pins σ H {s with heap:=h'}:=I.kept (t':=s.toks) kp
  have I2:Inv X pins σ (upd H h'.objs.size (.tup ys)) {s with heap:=h'.push {cls:= .type "tuple",data:= .seq its.toArray}}:=
   I1.laid (t':=s.toks) (fun b o e=>Heap.get?_push_of_some _ e) (Nat.le_refl _) (show ObjOk X.prog X.w _ _ _ (.tup ys)from⟨hz,its,r',IsTup.new _ _⟩)
  exact⟨.ref h'.objs.size,_,I2,rfl,q _ (I1.hok.fresh (Nat.le_refl _))⟩
 ·obtain⟨its,r',pl,hz⟩:=I.tuple hq
  exact call_tuple_same pl ⟨.ref p,H,I,rfl,q⟩
def tyV(K:PySem.W.Frag)(T:String)(x:V)(H:Hp):Prop:=match x with
 | .str _=>T="str"
 | .int _=>T="int"
 | .ref p=>(T="list"/\∃xs,SqL K H p xs)\/(T="tuple"/\∃o,K.lookup p=some o/\o.cls= .type "tuple"/\o.dict=none)\/
   (T="dict"/\((∃kvs,H p=some (.dK kvs))\/∃kvs,H p=some (.dT kvs)))\/(T="set"/\∃S n,H p=some (.set S n))
 |_=>False
theorem ZhI{pins:List (Addr×Obj)}{σ:St}{H:Hp}{s:Shared}{T:String}{x:V}{v:Value}(I:Inv X pins σ H s)(r:RelV x v)(ty:tyV X.K T x H):
  s.TypeIs v T/\∀a,v= .ref a->∃ob,s.heap.get? a=some ob/\ob.dict=none:=by
 cases x with
 |str z=>
  obtain⟨t,rfl⟩:=r
  cases(show T="str" from ty)
  exact⟨typeIs_str s z t,fun _ e=>nomatch e⟩
 |int i=>
  obtain⟨t,rfl⟩:=r
  cases(show T="int" from ty)
  exact⟨typeIs_int s i t,fun _ e=>nomatch e⟩
 |ref p=>
  cases r
  rcases ty with⟨rfl,xs,hq⟩|⟨rfl,o,hk,hc,hd⟩|⟨rfl,hk⟩|⟨rfl,S,n,hk⟩
  ·obtain⟨its,_,pl,_⟩:=I.list hq
   refine⟨pl.isList.typeIs,fun a e=>?_⟩
   cases e
   obtain⟨o,n,e,c,hd,_⟩:=pl
   exact⟨o,e,hd⟩
  ·refine⟨⟨o,I.kIn p o hk,hc⟩,fun a e=>?_⟩
   cases e
   exact⟨o,I.kIn _ o hk,hd⟩
  ·have z:∃o,s.heap.get? p=some o/\o.ExactDict:=by
    rcases hk with⟨kvs,hk⟩|⟨kvs,hk⟩
    ·obtain⟨_,_,_,_,o,_,_,e,ex,_⟩:=I.hok p _ hk
     exact⟨o,e,ex⟩
    ·obtain⟨_,_,_,_,o,_,_,e,ex,_⟩:=I.hok p _ hk
     exact⟨o,e,ex⟩
   obtain⟨o,e,ex⟩:=z
   refine⟨⟨o,e,ex.1⟩,fun a e2=>?_⟩
   cases e2
   exact⟨o,e,ex.2.1⟩
  ·obtain⟨o,_,_,_,e,ex,_⟩:=I.hok p _ hk
   refine⟨⟨o,e,ex.1⟩,fun a e2=>?_⟩
   cases e2
   exact⟨o,e,ex.2.1⟩
 |_=>exact False.elim ty
def tBM(K:PySem.W.Frag)(T:String)(r:V->List V->Hp->VK->Prop)(to:TE)(t:TA):TE:=fun σ H Q=>to σ H fun x H1=>tyV K T x H1/\t σ H1 fun xs H2=>r x xs H2 Q
variable{o e:Expr}{es:List Expr}{to:TE}{t:TA}{name:Str}{apos cpos:Pos}{T id:String}{r:V->List V->Hp->VK->Prop}
theorem Jo(pa:PlainAttrs T)(slot:Slot T name id)(hty:typeOf (.builtin id)=pure (.type "method_descriptor"))(hm:MtR X id r)(ho:PE X o to)(ha:PA X (e::es) t)
  (hbase:attributeBase o name X.env (eval o X.env)=eval o X.env:=by rfl)
  (hfew:((backTo cpos (starEach (e::es) X.env)).all (fun x=> !x.1)&&(backToKw cpos (keywordEach [] X.env)).all (fun x=>x.1.isSome)
   &&decide ((e::es).length+([]:List Keyword).length+(if([]:List Keyword).isEmpty then 0 else 1)<30))=true:=by rfl)
  (hline:(apos.endLine==cpos.line)=true:=by rfl) (hs:starEach (e::es) X.env=(false,eval e X.env)::starEach es X.env:=by rfl) (hplain:(backTo cpos (starEach es X.env)).any (·.1)=false:=by rfl):
  PE X (.Call (.Attribute o name apos) (e::es) [] cpos) (tBM X.K T r to t):=by
 intro pins s σ H Q I h
 refine wpAny_Call_method_late hbase hfew hline rfl (thn (ho pins s σ H _ I h) fun v s1⟨x,H1,I1,r1,ty,q1⟩=>?_)
 obtain⟨h1,h2⟩:=ZhI I1 r1 ty
 refine⟨T,id,pa,slot,hty,h1,h2,?_⟩
 have hA:=ha cpos pins s1 σ H1 _ I1 q1
 rw[hs]at hA⊢
 refine Calls.callWith_builtin (by show(false||(backTo cpos (starEach es X.env)).any (·.1))=false;rw[hplain]<;>rfl) (Calls.evalArgs_plain ?_)
 exact thn hA fun us s2⟨vs,H2,I2,r2,q2⟩=>hm pins s2 σ H2 x vs v us Q I2 r1 r2 q2
end
def MtM(X:Cx)(id:String)(r:V->List V->Hp->VK->Prop):Prop:=
 ∀(pins:List (Addr×Obj))(s:Shared)(σ:St)(H:Hp)(x:V)(xs:List V)(v:Value)(us:List Value)(Q:VK),Inv X pins σ H s->RelV x v->Vals xs us->r x xs H Q->
  wpAny (model X.prog X.w) X.A (call (.builtin id) (v::us)) (EP X pins σ Q) X.xe s
theorem Vals.one:∀{x:V}{us:List Value},Vals [x] us->∃u,us=[u]/\RelV x u
 |_,_,.cons r .nil=>⟨_,rfl,r⟩
theorem Vals.zero:∀{us:List Value},Vals [] us->us=[]
 |_,.nil=>rfl
theorem Vals.rep{xs:List V}{us:List Value}(h:Vals xs us):∀k:Nat,Vals (List.replicate k xs).flatten (List.replicate k us).flatten
 |0=> .nil
 |k+1=>by
  rw[List.replicate_succ,List.replicate_succ,List.flatten_cons,List.flatten_cons]
  exact Vals.append h (Vals.rep h k)
theorem foldl_rep(its:List Value):∀(k:Nat)(acc:List Value),
  List.foldl (fun x1 x2=>x1++x2) acc.toArray (List.replicate k its.toArray)=(acc++(List.replicate k its).flatten).toArray
 |0,acc=>by simp
 |k+1,acc=>by
  have e:acc.toArray++its.toArray=(acc++its).toArray:=by simp
  have e2:(acc++its)++(List.replicate k its).flatten=acc++(List.replicate (k+1) its).flatten:=by
   rw[List.replicate_succ,List.flatten_cons,List.append_assoc]
  rw[<-e2,<-foldl_rep its k (acc++its),<-e,List.replicate_succ,List.foldl_cons]
section
variable{X:Cx}{pins:List (Addr×Obj)}{σ:St}{H:Hp}{s:Shared}{l b:Addr}{xs ys zs:List V}
theorem Inv.lset{its its':List Value}{n:Nat}{f:Array Value->Array Value}{t':Nat}(I:Inv X pins σ H s)(hH:H l=some (.lst xs))
  (e:s.heap.get? l=some {cls:= .type "list",data:= .seq its.toArray n})(hf:f its.toArray=its'.toArray)(hv:Vals ys its')(hz:ys.length<=sizeLine):
  Inv X pins σ (upd H l (.lst ys)) {s with heap:=s.heap.update l (Obj.mapSeq f),toks:=t'}:=by
 have q:=PySem.IsL.update e f
 rw[hf]at q
 refine I.write (x:=l) (e:=l) (by rw[hH];exact trivial) (.inl rfl) (fun b' u hb hu=>(Heap.get?_update_other s.heap (Obj.mapSeq f) (Ne.symm hb)).trans hu) ⟨_,q⟩ ?_
 exact⟨hz,its',_,hv,q⟩
theorem Inv.lnew{its:List Value}{t':Nat}(I:Inv X pins σ H s)(hv:Vals ys its)(hz:ys.length<=sizeLine):
  Inv X pins σ (upd H s.heap.objs.size (.lst ys)) {s with heap:=s.heap.push {cls:= .type "list",data:= .seq its.toArray},toks:=t'}:=
 I.laid (fun _ _ q=>Heap.get?_push_of_some _ q) (Nat.le_refl _) ⟨hz,its,0,hv,Heap.get?_push_size _ rfl⟩
theorem Inv.fresh(I:Inv X pins σ H s):H s.heap.objs.size=none:=I.hok.fresh (Nat.le_refl _)
theorem Inv.lstM(I:Inv X pins σ H s)(hH:H l=some (.lst xs)):xs.length<=sizeLine/\∃(its:List Value)(n:Nat),Vals xs its/\xs.length=its.length/\s.heap.get? l=some {cls:= .type "list",data:= .seq its.toArray n}:=by
 obtain⟨z,its,n,r,e⟩:=I.hok l _ hH
 exact⟨z,its,n,r,r.length,e⟩
theorem ZcI{n:Nat}(h:n<=sizeLine):Builtin.List.listTooLong n=false:=by
 unfold Builtin.List.listTooLong
 exact decide_eq_false (by omega)
end
section
variable{X:Cx}
def rAppend:V->List V->Hp->VK->Prop:=fun x vs H Q=>∃l xs y,x= .ref l/\vs=[y]/\H l=some (.lst xs)/\xs.length<sizeLine/\Q .non (upd H l (.lst (xs++[y])))
theorem Yu:MtM X "list.append" rAppend:=by
 intro pins s σ H x vs v us Q I rx rv h
 obtain⟨l,xs,y,rfl,rfl,hH,hz,q⟩:=h
 cases rx
 obtain⟨u,rfl,ru⟩:=rv.one
 obtain⟨z,its,n,r,hl,e⟩:=I.lstM hH
 refine call_meets F.slot_list_append ⟨_,e,rfl⟩ F.entry_list_append (F.args_list_append_2 _ _) (PySem.list_append l its.toArray n u (by rw[List.size_toArray];omega)) ⟨e,?_⟩
 refine⟨.non,_,I.lset (its':=its++[u]) hH e (by simp) (r.append (.cons ru .nil)) ?_,rfl,q⟩
 rw[List.length_append,List.length_singleton]
 omega
def rExtend:V->List V->Hp->VK->Prop:=fun x vs H Q=>∃l b xs zs,x= .ref l/\vs=[.ref b]/\H l=some (.lst xs)/\H b=some (.lst zs)/\xs.length+zs.length<=sizeLine/\Q .non (upd H l (.lst (xs++zs)))
theorem ZiR:MtM X "list.extend" rExtend:=by
 intro pins s σ H x vs v us Q I rx rv h
 obtain⟨l,b,xs,zs,rfl,rfl,hH,hB,hz,q⟩:=h
 cases rx
 obtain⟨u,rfl,ru⟩:=rv.one
 cases ru
 obtain⟨z,its,n,r,hl,e⟩:=I.lstM hH
 obtain⟨z2,its2,n2,r2,hl2,e2⟩:=I.lstM hB
 have hsz:its.toArray.size+its2.toArray.size<=sizeLine:=by rw[List.size_toArray,List.size_toArray];omega
 have hlong:¬(!its.toArray.isEmpty&&Builtin.List.listTooLong (its.toArray.size+its2.toArray.size))=true:=by
  rw[ZcI hsz,Bool.and_false]
  exact Bool.false_ne_true
 refine call_meets F.slot_list_extend ⟨_,e,rfl⟩ F.entry_list_extend (F.args_list_extend_2 _ _)
  (AutoSeq1.list_extend_list_list_0 l its.toArray n b its2.toArray n2 hlong (by rw[List.size_toArray];omega) (by omega)) ⟨e,e2,?_⟩
 refine⟨.non,_,I.lset (its':=its++its2) hH e (by simp) (r.append r2) ?_,rfl,q⟩
 rw[List.length_append]
 omega
def rCat:R2:=fun x y H Q=>∃l b xs zs,x= .ref l/\y= .ref b/\H l=some (.lst xs)/\H b=some (.lst zs)/\xs.length+zs.length<=sizeLine/\∀p,H p=none->Q (.ref p) (upd H p (.lst (xs++zs)))
theorem op_cat:OpR X (binaryOp .Add) rCat:=by
 intro pins s σ H x y v u Q I rx ry h
 obtain⟨l,b,xs,zs,rfl,rfl,hH,hB,hz,q⟩:=h
 cases rx
 cases ry
 obtain⟨z,its,n,r,hl,e⟩:=I.lstM hH
 obtain⟨z2,its2,n2,r2,hl2,e2⟩:=I.lstM hB
 refine PySem.P.add_list e e2 ?_ (by rw[List.size_toArray,List.size_toArray];omega)
 have ea:its.toArray++its2.toArray=(its++its2).toArray:=by simp
 rw[ea]
 exact⟨.ref _,_,I.lnew (t':=s.toks) (r.append r2) (by rw[List.length_append];omega),rfl,q _ I.fresh⟩
def rRep:R2:=fun x y H Q=>∃l k xs,x= .ref l/\y= .int k/\H l=some (.lst xs)/\ -(2^63)<=k/\k<2^63/\xs.length*k.toNat<=sizeLine/\
 ∀p,H p=none->Q (.ref p) (upd H p (.lst (List.replicate k.toNat xs).flatten))
theorem len_rep{α:Type}(xs:List α)(k:Nat):(List.replicate k xs).flatten.length=k*xs.length:=by
 induction k with
 |zero=>simp
 |succ k ih=>rw[List.replicate_succ,List.flatten_cons,List.length_append,ih,Nat.succ_mul,Nat.add_comm]
theorem ZfB:OpR X (binaryOp .Mult) rRep:=by
 intro pins s σ H x y v u Q I rx ry h
 obtain⟨l,k,xs,rfl,rfl,hH,h1,h2,hz,q⟩:=h
 cases rx
 obtain⟨t,rfl⟩:=ry
 obtain⟨z,its,n,r,hl,e⟩:=I.lstM hH
 have hlen:its.toArray.size*k.toNat<=sizeLine:=by rw[List.size_toArray,<-hl];exact hz
 have hcap:¬its.toArray.size*k.toNat>(2^63-1)/8:=by
  have:(sizeLine:Nat)<=(2^63-1)/8:=by decide
  omega
 have hfit:¬(!Builtin.List.listFitsIndex k)=true:=by
  rw[fitsIndex_both h1 h2]
  exact Bool.false_ne_true
 have hlong:¬Builtin.List.listTooLong (its.toArray.size*k.toNat)=true:=by
  rw[ZcI hlen]
  exact Bool.false_ne_true
 have hnew:List.foldl (fun x1 x2=>x1++x2) #[] (List.replicate (if its.toArray.isEmpty=true then 0 else k.toNat) its.toArray)=(List.replicate k.toNat its).flatten.toArray:=by
  have f0:∀m:Nat,List.foldl (fun x1 x2=>x1++x2) #[] (List.replicate m its.toArray)=(List.replicate m its).flatten.toArray:=fun m=>by
   have:=foldl_rep its m []
   rw[List.nil_append]at this
   exact this
  rw[f0]
  cases its with
  |nil=>simp
  |cons a r'=>rw[if_neg (by simp)]
 refine wpAny_binaryOp_repeat_ref (T:="list") (U:="int") (by decide) ⟨_,e,rfl⟩ (fun s'=>typeIs_int s' k t) noFill_list_mul F.fills_int_mul F.slot_int_rmul repeat_list F.slot_int_index.lookup
  (call_meets F.slot_int_rmul (typeIs_int s k t) F.entry_int_rmul (F.args_int_rmul_2 _ _) (int___rmul___int_list k t l its.toArray n)
   ⟨e,rfl,⟨_,e,rfl⟩,call_meets F.slot_list_mul ⟨_,e,rfl⟩ F.entry_list_mul (F.args_list_mul_2 _ _) (AutoListH.list___mul___list_int_3 l its.toArray n k t hfit hcap hlong) ⟨e,?_⟩⟩)
 rw[hnew]
 exact⟨.ref _,_,I.lnew (t':=s.toks) (r.rep k.toNat) (by rw[len_rep,Nat.mul_comm];exact hz),rfl,q _ I.fresh⟩
end
end L2
namespace Att
open PySem PySem.W PySem.Calls PyProof.Rows
theorem ZaD{P:Params}{h:Heap}:∀(ns:List Int)(vs:List Value),WellAll P h vs (ns.map WData.int)->IntsAre vs ns:=by
 intro ns
 induction ns with
 |nil=>
  intro vs w
  rw[List.map_nil]at w
  cases w
  exact .nil
 |cons n ns ih=>
  intro vs w
  rw[List.map_cons]at w
  cases w with
  |cons a b=>
   cases a
   exact .cons _ _ (ih _ b)
theorem Ze7{l:OpenLaw}{n:Nat}(hn:l.most=some n){P:Params}{h:Heap}{args:List WData}{vals:List Value}
  (hpre:l.row.toRowW.claim.pre args=true)(hwl:WellAll P h vals args):
  ∃a vs ns,vals=[Value.ref a]/\args=[WData.list (ns.map WData.int)]/\h.get? a=some {cls:= .type "list",data:= .seq vs.toArray}/\IntsAre vs ns/\ns.length<=n:=by
 have hsh:WShape.hasAll [] args [.list .int]=true:=(pre_splitW hpre).1
 have hc:l.pre.holds [] {args:=args}=true:=(pre_splitW hpre).2
 obtain⟨d,r,rfl,h1,h2⟩:=hasAllW_cons hsh
 obtain rfl:=hasAllW_nil h2
 obtain⟨xs,rfl,h3⟩:=hasW_list h1
 obtain⟨ns,rfl⟩:=items_int h3
 have hlen:ns.length<=n:=by
  unfold OpenLaw.pre at hc
  have h4:(WTm.not (.lt (.lit (.int (n:Int))) (.len (.arg 0)))).holds [] {args:=[.list (ns.map .int)]}=true:=by
   have h4:=(holds_andW hc).1
   rw[hn]at h4
   exact h4
  have h5:=condW_of h4 (w_not (w_lt w_lit (w_len_list (w_arg rfl))))
  rw[List.length_map]at h5
  refine Nat.le_of_not_lt fun q=>?_
  have q':(n:Int)<((ns.length:Nat):Int):=by omega
  first
   |(rw[decide_eq_true q']at h5;exact absurd h5 (by decide))
   |(simp at h5;omega)
 cases hwl with
 |cons w1 w2=>
  cases w2
  cases w1 with
  |list ho hall=>exact⟨_,_,ns,rfl,rfl,ho,ZaD ns _ hall,hlen⟩
theorem Ze9(l:OpenLaw)(args:List WData):l.row.toRowW.claim.post args (.bool true) args=true:=
 postW_of (r:=l.row.toRowW) (X:=(true==true))
  (show WShape.has [] (.bool true) .bool=true by first|rfl|decide|simp[WShape.has,WShape.arms,WShape.armsAll])
  (show(WTm.eq .res (.lit (.bool true))).value [] {args:=args,res:=some (.bool true),after:=args}=some (.bool (true==true))from w_eq_bool (w_res rfl) w_lit) rfl
theorem attach_call{l:OpenLaw}{n:Nat}{q:Program}{loose:List Str}{XP:(Str->Option Value)->Heap->Prop}{YP:World->Heap->Prop}{d:DefRec}
  (hn:l.most=some n)(hdf:d.params.defaults=[])
  (call:∀(w:World)(s₀ s₁:Shared)(mg mb:Str->Option Value)(fa:Addr)(o:Obj)(pm cd doc:Value)(a:Addr)(vs:List Value)(ns:List Int),
   Ground q loose [] XP w s₀ mg mb s₁.heap->YP w s₁.heap->
   s₁.heap.get? fa=some o->o.data= .func (docDef d.name d.params d.body d.scope pm cd doc)->s₁.heap.CodeRec cd d.name->mg d.name=some (.ref fa)->
   s₁.heap.get? a=some {cls:= .type "list",data:= .seq vs.toArray}->IntsAre vs ns->ns.length<=n->s₁.gens=#[]->
   codeAny (model l.prog w) callerA (.call (.ref fa) ⟨[.ref a],[]⟩) (fun r s'=>r= .ok (.ret (.bool true))/\OldK s₁.heap s'.heap/\s'.os=s₁.os/\AllBare s'.gens) s₁):
  WalkO q loose XP YP l.row.toRowW d [] (fun f vs=>PySem.call f vs):=by
 intro w s₀ s₁ mg mb G Y fa o pm cd doc dV kV ho hd hcd hD hmg hg args vals as hpre hlay hrd hwl hlo
 obtain rfl:dV= .none:=Dflts.none hD hdf
 obtain rfl:kV= .none:=Dflts.noKw hD
 obtain⟨a,vs,ns,rfl,rfl,hobj,hints,hlen⟩:=Ze7 hn hpre hwl
 refine enter_call (codeAny_mono (call w s₀ s₁ mg mb fa o pm cd doc a vs ns G Y ho (fd_plain hd) hcd hmg hobj hints hlen hg) fun r s' hq=>?_)
 obtain⟨rfl,h2,h3,h4⟩:=hq
 exact⟨.inl ⟨.bool true,.bool true,[],rfl,fun _=>rfl,.bool true,Ze9 l _,fun _=>⟨List.Pairwise.nil,fun _ hm=>(nomatch hm)⟩⟩,h2,h3,h4⟩
end Att
namespace L2
open PySem PySem.Spec PyProof.Rows
theorem Zam:∀{vs:List Value}{ns:List Int},IntsAre vs ns->Vals (ns.map V.int) vs
 |_,_,.nil=> .nil
 |_,_,.cons n t h=> .cons ⟨t,rfl⟩ (Zam h)
def inClass(s:Stmt)(j:Nat):Stmt:=match s with
 | .ClassDef _ _ _ body _ _ _ _ _ _ _=>body.getD j (.Pass ⟨0,0,0,0⟩)
 |_=> .Pass ⟨0,0,0,0⟩
def Zv(s:Stmt):Arguments:=match s with
 | .FunctionDef _ a _ _ _ _ _ _ _ _=>a
 |_=>{posonlyargs:=[],args:=[],vararg:=none,kwonlyargs:=[],kw_defaults:=[],kwarg:=none,defaults:=[]}
def Zj(s:Stmt):List Stmt:=match s with
 | .FunctionDef _ _ b _ _ _ _ _ _ _=>b
 |_=>[]
def Zd(s:Stmt):Scope:=match s with
 | .FunctionDef _ _ _ _ _ _ sc _ _ _=>sc
 |_=>{kind:= .function,names:=[],isGenerator:=false,isCoroutine:=false}
abbrev CX0:CXT:=fun _ _ _ _ _ _=>False
abbrev E0:XK:=fun _ _ _=>False
theorem Zf7{X:Cx}:JR CX0 X E0:=fun _ _ _ _ _ _ _ h=>h.elim
structure Fun(K:PySem.W.Frag)(x qual:Str)(st:Stmt)(f:Addr)(fd:FuncData):Prop where
 ex:∃(oc:Value)(od:Option Addr)(kV doc pm:Value)(an:Option Addr)(cdv ct:Value)(osl:Array (Option Value)),
  fd=PySem.W.fnOf x qual (Zv st) (Zj st) (Zd st) .none kV doc pm an cdv ct/\K.lookup f=some ⟨oc,od,.func fd,osl⟩/\PySem.W.codeIn K cdv qual=true
 kp:PySem.W.keepIn K (.ref f)=true
section
variable{P:Program}{w:World}{K:PySem.W.Frag}{mg:Str->Option Value}{base:Heap}
theorem Fun.ok{x qual:Str}{st:Stmt}{f:Addr}{fd:FuncData}{N ps:List Str}{k:Nat}{sp:Sp}(F:Fun K x qual st f fd)(S:Zx N ps (Zd st))(len:∀vs H Q E,sp vs H Q E->vs.length=ps.length)
  (hbody:∀(cdv:Value)(A:Around)(outer:List Env)(s:Shared)(H:Hp)(vs:List V)(Q:VK)(E:XK),Room k (A.deeper (envOfC qual (Zd st) s.heap.objs.size f cdv))->sp vs H Q E->
   ∃t,PSs (ZF CX0 P w K mg base N qual (Zd st) f cdv A outer s H E).nox (Zj st) t/\t {nx:=fun _ H'=>Q .non H',rt:=Q} (start N vs) H):FnOk P w K mg base CX0 (k+1) f fd ps sp:=by
 obtain⟨oc,od,kV,doc,pm,an,cdv,ct,osl,rfl,lk,hcd⟩:=F.ex
 refine ZcU lk hcd S len fun A outer s H vs Q E hr hsp=>?_
 obtain⟨t,h,q⟩:=hbody cdv A outer s H vs Q E hr hsp
 exact⟨t,h.nox,q⟩
theorem Fun.binds{x qual:Str}{st:Stmt}{f:Addr}{fd:FuncData}{ps:List Str}(F:Fun K x qual st f fd)
  (h:∀(kV doc pm:Value)(an:Option Addr)(cdv ct:Value)(us:List Value),us.length=ps.length->bindArgs (PySem.W.fnOf x qual (Zv st) (Zj st) (Zd st) .none kV doc pm an cdv ct) ⟨us,[]⟩=pure (ps.zip us)):Binds K fd ps []:=by
 obtain⟨oc,od,kV,doc,pm,an,cdv,ct,osl,rfl,lk,hcd⟩:=F.ex
 exact .all (h kV doc pm an cdv ct)
theorem ZD{x qual:Str}{st:Stmt}{f:Addr}{oc:Value}{od an:Option Addr}{osl:Array (Option Value)}{kV doc pm cdv ct:Value}(l:K.lookup f=some ⟨oc,od,.func (PySem.W.fnOf x qual (Zv st) (Zj st) (Zd st) .none kV doc pm an cdv ct),osl⟩)
  (c:PySem.W.codeIn K cdv qual=true)(k:PySem.W.keepIn K (.ref f)=true):Fun K x qual st f (PySem.W.fnOf x qual (Zv st) (Zj st) (Zd st) .none kV doc pm an cdv ct):=⟨⟨oc,od,kV,doc,pm,an,cdv,ct,osl,rfl,l,c⟩,k⟩
end
theorem Zbn{A:Around}{k:Nat}(hr:Room k A):A.units+1<cLine:=Nat.lt_of_le_of_lt (Nat.add_le_add_left (by decide:1<=64) _) hr.units
section
variable{X:Cx}
theorem pv(i:Nat){x:Str}{pos:Pos}(hN:X.N[i]?=some x:=by rfl)(hv:Vis X.env.scope x:=by first|exact Or.inl rfl|exact Or.inr (Or.inl rfl)|exact Or.inr (Or.inr rfl))(hd:(x==("__debug__":Str))=false:=by decide)
  (hcd:(x==("__classdict__":Str))=false:=by decide):PE X (.Name x pos) (Zcd i):=Zim hN hv hd hcd
end
theorem Zy{A B:Prop}(h:B):if false=true then A else B:=by
 rw[if_neg Bool.false_ne_true]
 exact h
theorem Yr{A B:Prop}(h:A):if true=true then A else B:=by
 rw[if_pos rfl]
 exact h
theorem ZQ{c A B:Prop}[Decidable c](h1:c->A)(h2:¬c->B):if c then A else B:=by
 by_cases h:c
 ·rw[if_pos h]
  exact h1 h
 ·rw[if_neg h]
  exact h2 h
def Same(H H':Hp):Prop:=∀b o,H b=some o->H' b=some o
theorem Same.refl(H:Hp):Same H H:=fun _ _ h=>h
theorem Same.trans{H H1 H2:Hp}(a:Same H H1)(b:Same H1 H2):Same H H2:=fun c o h=>b c o (a c o h)
theorem Same.free{H H':Hp}(e:Same H H'){l:Addr}(h:H' l=Option.none):H l=Option.none:=by
 cases q:H l with
 |none=>rfl
 |some o=>
  rw[e l o q]at h
  cases h
theorem Same.seq{K:PySem.W.Frag}{H H':Hp}{a:Addr}{xs:List V}(e:Same H H')(h:SqL K H a xs):SqL K H' a xs:=by
 rcases h with(h|⟨o,h⟩)|h
 ·exact .inl (.inl (e _ _ h))
 ·exact .inl (.inr ⟨o,e _ _ h⟩)
 ·exact .inr h
def Z7(X:Cx)(scope:Scope)(cl:List (Str×Addr))(C:Addr)(N:List Str)(fp:List Addr)(s:Shared)(H:Hp):Cx:=
 {X with N:=N,s₀:=s,H₀:=H,env:=compEnvC scope cl C X.env,outer:=X.stack,ex:=fp,fn:=fun _=>false,pn:=[],xe:=fun _ _=>False}
def PTs(X:Cx)(ifs:List Expr)(t:TT):Prop:=
 ∀(pins:List (Addr×Obj))(s:Shared)(σ:St)(H:Hp)(Q:Bool->Hp->Prop),Inv X pins σ H s->t σ H Q->
  wpAny (model X.prog X.w) X.A (forIn ifs true fun c r=>if r=true then do let ok<-isTrue c X.env (eval c X.env);pure (ForInStep.yield ok)else pure (ForInStep.yield r)) (TP X pins σ Q) X.xe s
def tTrue:TT:=fun _ H Q=>Q true H
theorem YK{X:Cx}:PTs X [] tTrue:=fun _ _ _ H _ I h=>wpAny_tests_nil ⟨H,I,h⟩
theorem Yv{X:Cx}{c:Expr}{t:TT}(h:PT X c t):PTs X [c] t:=fun pins s σ H Q I q=>wpAny_tests_one (h pins s σ H Q I q)
theorem Yo{prog:Program}{w:World}{A:Around}{R:Result->Shared->Prop}{s:Shared}{elt target iter:Expr}{ifs:List Expr}{scope:Scope}{pos:Pos}{it acc:Value}{env:Env}(I:Nat->Shared->Prop)
  (turn:∀n s,I n s->wpAny (model prog w) A (pyNext it) (fun r s₁=>match r with
   |none=>R (.ok .next) s₁
   |some v=>wpAny (model prog w) A (letOwnedTupleGo target it v) (fun _ s₁'=>wpAny (model prog w) A (assign target env v) (fun _ s₂=>
     wpAny (model prog w) A (forIn ifs true fun c r=>if r=true then do let ok<-isTrue c env (eval c env);pure (ForInStep.yield ok)else pure (ForInStep.yield r)) (fun ok s₃=>
      if ok=true then wpAny (model prog w) A (eval elt env) (fun x s₄=>
       wpAny (model prog w) A (call (.builtin "list.append") [acc,x]) (fun _ s₅=>∃m,m<n/\I m s₅) (fun _ _=>False) s₄) (fun _ _=>False) s₃
      else∃m,m<n/\I m s₃) (fun _ _=>False) s₂) (fun _ _=>False) s₁') (fun _ _=>False) s₁) (fun _ _=>False) s)
  (n:Nat) (h:I n s):
  codeAny (model prog w) A (.compLoop (.ListComp elt [⟨target,iter,ifs,0⟩] scope pos) 0 it acc env) R s:=by
 have lift:∀{α:Type}{t:Sem α}{Q:α->Shared->Prop}{E:Value->Shared->Prop}{s:Shared},wpAny (model prog w) A t Q (fun _ _=>False) s->wpAny (model prog w) A t Q E s:=
  fun h=>wpAny_mono h (fun _ _ q=>q) fun _ _ q=>q.elim
 refine codeAny_loop rfl I (fun n s hI=>?_) n h
 show wpAny _ A ((compTurn (.ListComp elt [⟨target,iter,ifs,0⟩] scope pos) 0 it acc env).onRaise (fun x=>do noteFrame x env;theTreesLotGoes x)) _ _ s
 refine wpAny_noted ?_
 rw[compTurn_list]
 refine wpAny_bind (wpAny_standAt (wpAny_bind (wpAny_mono (lift (turn n s hI)) (fun r s₁ h₁=>?_) fun _ _ h'=>h')))
 cases r with
 |none=>exact wpAny_pure h₁
 |some v=>
  refine wpAny_bind (wpAny_mono (lift h₁) (fun _ s₁' h₁'=>?_) fun _ _ h'=>h')
  refine wpAny_bind (wpAny_mono (lift h₁') (fun _ s₂ h₂=>wpAny_bind (wpAny_mono (lift h₂) (fun ok s₃ h₃=>?_) fun _ _ h'=>h')) fun _ _ h'=>h')
  cases ok with
  |false=>exact wpAny_pure ⟨rfl,h₃⟩
  |true=>
   exact wpAny_bind (wpAny_bind (wpAny_mono (lift h₃) (fun x s₄ h₄=>wpAny_bind (wpAny_mono (lift h₄) (fun _ s₅ h₅=>wpAny_pure (wpAny_pure ⟨rfl,h₅⟩)) fun _ _ h'=>h')) fun _ _ h'=>h'))
def BsOk(XN:List Str)(xn sn:List (Str×NameKind)):List Str->List (Option Nat)->Prop
 |[],[]=>True
 |_::N,none::bs=>BsOk XN xn sn N bs
 |x::N,some j::bs=>(XN[j]?=some x/\xn.lookup x=some .cell/\sn.lookup x=some .free)/\BsOk XN xn sn N bs
 |_,_=>False
def bst(bs:List (Option Nat))(σ:St):St:=bs.map fun o=>o.bind fun j=>(σ[j]?).join
theorem BsOk.len{XN:List Str}{xn sn:List (Str×NameKind)}:∀{N:List Str}{bs:List (Option Nat)},BsOk XN xn sn N bs->bs.length=N.length
 |[],[],_=>rfl
 |_::N,none::bs,h=>congrArg (·+1) (BsOk.len (N:=N) (bs:=bs) h)
 |_::N,some _::bs,h=>congrArg (·+1) (BsOk.len (N:=N) (bs:=bs) h.2)
theorem BsOk.get{XN:List Str}{xn sn:List (Str×NameKind)}:∀{N:List Str}{bs:List (Option Nat)}{i j:Nat},BsOk XN xn sn N bs->bs[i]?=some (some j)->∃x,N[i]?=some x/\XN[j]?=some x/\xn.lookup x=some .cell/\sn.lookup x=some .free
 |[],[],_,_,_,e=>by simp at e
 |_::N,none::bs,0,_,_,e=>by simp at e
 |_::N,none::bs,i+1,j,h,e=>by
  obtain⟨x,h1,h2⟩:=BsOk.get (N:=N) (bs:=bs) (i:=i) (j:=j) h (by simpa using e)
  exact⟨x,by simpa using h1,h2⟩
 |x::N,some k::bs,0,j,h,e=>by
  have:k=j:=by simpa using e
  subst this
  exact⟨x,rfl,h.1⟩
 |_::N,some k::bs,i+1,j,h,e=>by
  obtain⟨x,h1,h2⟩:=BsOk.get (N:=N) (bs:=bs) (i:=i) (j:=j) h.2 (by simpa using e)
  exact⟨x,by simpa using h1,h2⟩
theorem Ja{env:Env}:∀{names:List (Str×NameKind)}{x:Str},names.lookup x=some .free->
  ((names.map fun(n,k)=>if(k==NameKind.free&&env.scope.kind== .function&&env.kindOf n==some .cell)then(n,NameKind.cell)else(n,k)).lookup x=some .cell\/
  (names.map fun(n,k)=>if(k==NameKind.free&&env.scope.kind== .function&&env.kindOf n==some .cell)then(n,NameKind.cell)else(n,k)).lookup x=some .free)
 |[],_,h=>by simp at h
 |(n,k)::r,x,h=>by
  have ih:=@Ja env r x
  simp only[List.map_cons]
  cases hx:x==n with
  |true=>
   simp only[List.lookup_cons,hx]at h
   cases h
   by_cases hc:(NameKind.free==NameKind.free&&env.scope.kind== .function&&env.kindOf n==some .cell)=true
   ·rw[if_pos hc];simp only[List.lookup_cons,hx];simp
   ·rw[if_neg hc];simp only[List.lookup_cons,hx];simp
  |false=>
   simp only[List.lookup_cons,hx]at h
   by_cases hc:(k==NameKind.free&&env.scope.kind== .function&&env.kindOf n==some .cell)=true
   ·rw[if_pos hc];simp only[List.lookup_cons,hx];exact ih h
   ·rw[if_neg hc];simp only[List.lookup_cons,hx];exact ih h
theorem JT{env:Env}:∀{names:List (Str×NameKind)}{x:Str},(∀y∈names,y.2≠.cell)->
  ((names.map fun(n,k)=>if(k==NameKind.free&&env.scope.kind== .function&&env.kindOf n==some .cell)then(n,NameKind.cell)else(n,k)).lookup x=some .cell\/
  (names.map fun(n,k)=>if(k==NameKind.free&&env.scope.kind== .function&&env.kindOf n==some .cell)then(n,NameKind.cell)else(n,k)).lookup x=some .free)->names.lookup x=some .free
 |[],_,_,h=>by simp at h
 |(n,k)::r,x,hn,h=>by
  have ih:=@JT env r x fun y hy=>hn y (.tail _ hy)
  simp only[List.map_cons]at h
  cases hx:x==n with
  |true=>
   by_cases hc:(k==NameKind.free&&env.scope.kind== .function&&env.kindOf n==some .cell)=true
   ·simp only[Bool.and_eq_true,beq_iff_eq]at hc
    simp only[List.lookup_cons,hx]
    rw[hc.1.1]
   ·rw[if_neg hc]at h
    simp only[List.lookup_cons,hx]at h⊢
    rcases h with h|h
    ·exact absurd (Option.some.inj h) (hn (n,k) (.head _))
    ·exact h
  |false=>
   simp only[List.lookup_cons,hx]
   by_cases hc:(k==NameKind.free&&env.scope.kind== .function&&env.kindOf n==some .cell)=true
   ·rw[if_pos hc]at h;simp only[List.lookup_cons,hx]at h;exact ih h
   ·rw[if_neg hc]at h;simp only[List.lookup_cons,hx]at h;exact ih h
structure Blk(X:Cx)(scope:Scope)(cl:List (Str×Addr))(N:List Str)(bs:List (Option Nat)):Prop where
 clos:closureFor scope X.env=pure cl
 kind:scope.kind= .function
 cell:∀y∈scope.names,y.2≠.cell
 names:∀y∈scope.names,y.2= .local->scope.names.lookup y.1=some .local
 cl1:∀p∈cl,X.env.cells.lookup p.1=some p.2
 cl2:∀y∈scope.names,y.2= .free->(cl.lookup y.1).isSome=true
 bs:BsOk X.N X.env.scope.names scope.names N bs
section
variable{X:Cx}{scope:Scope}{cl:List (Str×Addr)}{N:List Str}{bs:List (Option Nat)}{pins:List (Addr×Obj)}{σ:St}{H:Hp}{s:Shared}{fp:List Addr}{C:Addr}
theorem Blk.c1(B:Blk X scope cl N bs){x:Str}{c:Addr}(h:cl.lookup x=some c):X.env.cells.lookup x=some c:=B.cl1 (x,c) (PySem.mem_of_lookup h)
theorem Blk.c2(B:Blk X scope cl N bs){x:Str}(h:(compEnvC scope cl C X.env).kindOf x=some .cell\/(compEnvC scope cl C X.env).kindOf x=some .free):∃c,cl.lookup x=some c:=by
 have h1:=JT (env:=X.env) B.cell h
 exact Option.isSome_iff_exists.mp (B.cl2 (x,.free) (PySem.mem_of_lookup h1) rfl)
theorem Blk.ok(B:Blk X scope cl N bs)(I:Inv X pins σ H s)(hf:∀b∈fp,FpOk X pins H b) (ho:∀b∈fp,∃o,s.heap.get? b=some o/\∀v,o.data≠.cell v) (hC:s.heap.objs.size<=C):(Z7 X scope cl C N fp s H).Ok:=by
 refine⟨I.ok.mod,B.kind,I.ok.glob,I.ok.blt,hC,fun x y c h1 h2=>I.ok.inj x y c (B.c1 h1) (B.c1 h2),fun x h=>B.c2 h,fun x c h _=>(Bool.false_ne_true h).elim,I.ok.hd,I.ok.frames,.inl rfl,fun b hb=>?_,I.bs,Nat.le_trans I.ok.bsz I.sz,fun b o e hb=>?_,fun b hb hb'=>?_,I.stack,I.stkFree⟩
 ·obtain⟨o,e,_⟩:=ho b hb
  obtain⟨_,_,_,_,f4,_⟩:=hf b hb
  exact⟨Nat.ne_of_lt (Nat.lt_of_lt_of_le (Heap.lt_size e) hC),fun x c h=>f4 x c (B.c1 h)⟩
 ·obtain⟨_,_,_,f3,_⟩:=hf b hb
  rcases f3 with z|z
  ·exact I.ok.noex b o e z
  ·exact absurd (Nat.lt_of_lt_of_le (Heap.lt_size e) (Nat.le_trans I.ok.bsz z)) (Nat.lt_irrefl _)
 ·obtain⟨_,f1,f2,_⟩:=hf b hb
  rcases List.mem_cons.mp (I.stkSub b hb')with z|z
  ·exact f1 z
  ·exact f2 z
theorem Blk.inv(B:Blk X scope cl N bs)(I:Inv X pins σ H s)(hf:∀b∈fp,FpOk X pins H b) (ho:∀b∈fp,∃o,s.heap.get? b=some o/\∀v,o.data≠.cell v) (hC:s.heap.objs.size<=C) {h':Heap} {t':Nat}
  (hk:∀b o,s.heap.get? b=some o->h'.get? b=some o) {m:Str->Option Value} (hn:h'.Ns C m) {D:Addr} {oD:Obj} (hD:h'.get? D=some oD) (hD1:s.heap.objs.size<=D) (hDC:D≠C) (hDd:∀v,oD.data≠.cell v):
  Inv (Z7 X scope cl C N fp s H) [(D,oD)] (bst bs σ) H {s with heap:=h',toks:=t'}:=by
 have ok:(Z7 X scope cl C N fp s H).Ok:=B.ok I hf ho hC
 refine⟨ok,rfl,I.bare,Un.kept hk,⟨m,hn,fun i x v e1 e2 e3=>?_⟩,fun x c h=>?_,I.hok.fresh hC,fun x c h=>I.freeC x c (B.c1 h),fun p hp=>?_,I.hok.kept hk,?_⟩
 ·have e2':(bst bs σ)[i]?=some (some v):=e2
  unfold bst at e2'
  rw[List.getElem?_map]at e2'
  cases q:bs[i]? with
  |none=>rw[q]at e2';cases e2'
  |some o=>
   rw[q]at e2'
   cases o with
   |none=>cases e2'
   |some j=>
    obtain⟨y,y1,y2,y3,y4⟩:=B.bs.get q
    have e1':N[i]?=some x:=e1
    rw[e1']at y1
    cases y1
    have e4:σ[j]?=some (some v):=by
     have z:(σ[j]?).join=some v:=Option.some.inj e2'
     cases w:σ[j]? with
     |none=>rw[w]at z;cases z
     |some o=>rw[w]at z;rw[show o=some v from z]
    obtain⟨mx,hmx,lx⟩:=I.loc
    obtain⟨u,r,l⟩:=lx j x v y2 e4 (.inr (.inl y3))
    refine⟨u,r,.inr ⟨Ja (env:=X.env) y4,?_⟩⟩
    rcases l with⟨l1,_⟩|⟨_,c,l2,l3⟩
    ·have l1':X.env.scope.names.lookup x=some .local:=l1
     rw[y3]at l1'
     cases l1'
    ·obtain⟨c',h'⟩:=Option.isSome_iff_exists.mp (B.cl2 (x,.free) (PySem.mem_of_lookup y4) rfl)
     have h2:=B.c1 h'
     rw[l2]at h2
     cases h2
     obtain⟨oc,hoc,hd⟩:=l3
     exact⟨c,h',oc,hk _ _ hoc,hd⟩
 ·obtain⟨v,oc,hoc,hd⟩:=I.cell x c (B.c1 h)
  exact⟨v,oc,hk _ _ hoc,hd⟩
 ·have e:p=(D,oD):=by simpa[Z7]using hp
  subst e
  refine⟨hD,I.hok.fresh hD1,hDC,fun z=>?_,hDd⟩
  have z':D∈frs X.stack:=z
  rcases List.mem_cons.mp (I.stkSub D z')with q|q
  ·exact Nat.lt_irrefl _ (Nat.lt_of_lt_of_le I.lt (by rw[<-q];exact hD1))
  ·exact I.nofs hD1 q
 ·show(bst bs σ).length=N.length
  unfold bst
  rw[List.length_map]
  exact B.bs.len
end
def tLC(bs:List (Option Nat))(wi:TI)(g:TG)(tt:TT)(te:TE):TE:=fun σ H Q=>wi σ H fun J H1=>∃W:Nat->Nat->List V->St->Hp->Prop,(∃m,W 0 m [] (bst bs σ) H1)/\∀i m ys σ' H',W i m ys σ' H'->
 (J.stop i H'/\ys.length<=sizeLine/\∀p,H' p=none->Q (.ref p) (upd H' p (.lst ys)))\/
 (J.go i H'/\ys.length<sizeLine/\∃N:List V->St->Hp->Prop,(∀zs σ2 H2,N zs σ2 H2->∃m',m'<m/\W (i+1) m' zs σ2 H2)/\∀x H2,J.yld i H' x H2->g x σ' H2 fun σ3 H3=>tt σ3 H3 fun b H4=>
  if b=true then te σ3 H4 fun v H5=>N (ys++[v]) σ3 H5 else N ys σ3 H4)
theorem ZdW{X:Cx}{scope:Scope}{cl:List (Str×Addr)}{N:List Str}{bs:List (Option Nat)}{tg iter elt:Expr}{ifs:List Expr}{pos:Pos}{wi:TI}{g:TG}{tt:TT}{te:TE}(B:Blk X scope cl N bs)(hc:X.calm=true)
  (hi:PI X tg iter wi)(hg:∀C fp s H,PG (Z7 X scope cl C N fp s H) tg g) (ht:∀C fp s H,PTs (Z7 X scope cl C N fp s H) ifs tt) (he:∀C fp s H,PE (Z7 X scope cl C N fp s H) elt te)
  (hs:∀x,foldedSetIterable iter X.env x=pure x:=by intro _;rfl):
  PE X (.ListComp elt [⟨tg,iter,ifs,0⟩] scope pos) (tLC bs wi g tt te):=by
 intro pins s σ H Q I h
 rw[eval_ListComp]
 refine wpAny_comprehension_free (use:=none) rfl hs B.clos B.kind B.names (thn (hi pins s σ H _ I h) fun v s1 h1=>thn h1 fun itv s2 h2=>?_)
 obtain⟨it,fp,tn,J,H2,rfl,I2,T,st2,f2,W,⟨m0,w0⟩,turn⟩:=h2
 refine wpAny_newObj_type (wpAny_newFunctionEnv B.cell (by intro y hy;simp at hy) (fun h₁ hns₁ hsb₁=>?_) B.kind)
 dsimp only at hns₁ hsb₁⊢
 generalize hG:s2.heap.push {cls:= .type "list",dict:=none,data:= .seq ([]:List Value).toArray}=G at hns₁ hsb₁⊢
 have hC:G.objs.size=s2.heap.objs.size+1:=by rw[<-hG,Heap.size_push]
 have hDC:s2.heap.objs.size≠G.objs.size:=by rw[hC];exact Nat.ne_of_lt (Nat.lt_succ_self _)
 have hCle:s2.heap.objs.size<=G.objs.size:=by rw[hC];exact Nat.le_succ _
 have old:∀b o,s2.heap.get? b=some o->h₁.get? b=some o:=fun b o e=>hsb₁.extBut b o (by rw[hC];exact Nat.ne_of_lt (Nat.lt_succ_of_lt (Heap.lt_size e))) (Heap.get?_push_of_some _ (hG▸Heap.get?_push_of_some _ e))
 have hacc:h₁.get? s2.heap.objs.size=some {cls:= .type "list",data:= .seq ([]:List Value).toArray 0}:=hsb₁.extBut _ _ hDC (Heap.get?_push_of_some _ (hG▸Heap.get?_push_size _ rfl))
 have stat:∀{D:Addr}{o:Obj}{H':Hp},s2.heap.objs.size<=D->(∀b∈fp,H' b=none)->∀b∈fp,FpOk (Z7 X scope cl G.objs.size N fp s2 H2) [(D,o)] H' b:=fun{D o H'} hD hn b hb=>by
  obtain⟨ob,eb,_⟩:=T.obj _ _ st2 b hb
  obtain⟨_,f1,f3,f4,f5,_⟩:=f2 b hb
  have ok:=B.ok I2 f2 (T.obj _ _ st2) (C:=G.objs.size) hCle
  refine⟨hn b hb,(ok.exf b hb).1,ok.exfs b hb,.inl hb,(ok.exf b hb).2,fun p hp=>?_⟩
  have e:p=(D,o):=by simpa[Z7]using hp
  subst e
  exact Nat.ne_of_gt (Nat.lt_of_lt_of_le (Heap.lt_size eb) hD)
 have loop:∀s₃:Shared,s₃={s2 with heap:=h₁,toks:=s2.toks+([]:List (Str×Value)).length}->
   codeAny (model X.prog X.w) X.A (.compLoop (.ListComp elt [⟨tg,iter,ifs,0⟩] scope pos) 0 (.ref it) (.ref s2.heap.objs.size) (compEnvC scope cl G.objs.size X.env))
    (compPost (model X.prog X.w) X.A X.xe none (EP X pins σ Q) (.ref s2.heap.objs.size) G.objs.size) s₃:=by
  rintro s₃ rfl
  refine Yo (fun n s'=>∃i ys its k σ' H',Inv (Z7 X scope cl G.objs.size N fp s2 H2) [(s2.heap.objs.size,{cls:= .type "list",data:= .seq (List.toArray its) k})] σ' H' s'/\Vals ys its/\tn i s'.heap/\(∀b∈fp,H' b=none)/\W i n ys σ' H') ?_ m0
   ⟨0,[],[],0,bst bs σ,H2,B.inv I2 f2 (T.obj _ _ st2) hCle old hns₁ hacc (Nat.le_refl _) hDC (fun v z=>nomatch z),.nil,T.keep _ _ _ st2 fun b _ o e=>old b o e,fun b hb=>(f2 b hb).1,w0⟩
  rintro n s3 ⟨i,ys,its,k,σ3,H3,I3,rv,st3,fr3,w3⟩
  have pD:=I3.pin _ (List.mem_append_right _ (.head _))
  rcases turn i n ys σ3 H3 w3 with⟨stop,hz,qn⟩|⟨go,hz,NN,hNN,step⟩
  ·refine thn (T.done (Z7 X scope cl G.objs.size N fp s2 H2) rfl rfl rfl hc i _ s3 σ3 H3 (fun _ _=>False) I3 (stat (Nat.le_refl _) fr3) st3 stop) fun r s4⟨hr,I4⟩=>?_
   subst hr
   have pD4:=I4.pin _ (List.mem_append_right _ (.head _))
   obtain⟨m4,hn4,_⟩:=I4.loc
   refine⟨m4,hn4,fun h5 sb5=>?_⟩
   have hD5:h5.get? s2.heap.objs.size=some {cls:= .type "list",data:= .seq (List.toArray its) k}:=sb5.extBut _ _ hDC pD4.1
   have k5:∀b o,b≠G.objs.size->s4.heap.get? b=some o->h5.get? b=some o:=fun b o hb e=>sb5.extBut b o hb e
   have hC4:H3 G.objs.size=none:=I4.free
   have hok4:HOk X.prog X.w H3 s4.heap:=I4.hok
   have hok5:HOk X.prog X.w (upd H3 s2.heap.objs.size (.lst ys)) h5:=fun b u e=>by
    by_cases hb:b=s2.heap.objs.size
    ·subst hb
     rw[Zf]at e
     cases e
     exact⟨hz,its,k,rv,hD5⟩
    ·rw[Zg hb]at e
     have nC:∀c u',H3 c=some u'->c≠G.objs.size:=fun c u' q z=>by rw[z,hC4]at q;cases q
     have nD:∀c u',H3 c=some u'->c≠s2.heap.objs.size:=fun c u' q z=>by rw[z,pD4.2.1]at q;cases q
     refine(hok4 b u e).stay (fun c v hc' q=>k5 c v ?_ q) (fun c q=>by rw[Zg (nD c _ q)];exact q) fun c xs q=>by rw[Zg (nD c _ q)];exact q
     rcases hc' with z|z
     ·rw[z];exact nC b u e
     ·exact nC c _ z
   have un4:Un (frs X.stack) fp H2 H3 s2.heap s4.heap:=I4.base
   have neC:∀b o,s2.heap.get? b=some o->b≠G.objs.size:=fun b o e=>Nat.ne_of_lt (Nat.lt_of_lt_of_le (Heap.lt_size e) hCle)
   have neD:∀b o,s2.heap.get? b=some o->b≠s2.heap.objs.size:=fun b o e=>Nat.ne_of_lt (Heap.lt_size e)
   have un5:Un (frs X.stack) fp H2 (upd H3 s2.heap.objs.size (.lst ys)) s2.heap h5:={
    keep:=fun b o e n hb hx=>k5 b o (neC b o e) (un4.keep b o e n hb hx)
    slot:=fun b o e n hb hx=>let⟨sl,q⟩:=un4.slot b o e n hb hx;⟨sl,k5 b _ (neC b o e) q⟩
    free:=fun b o e n hx=>by rw[Zg (neD b o e)];exact un4.free b o e n hx
    there:=fun b o e hx=>let⟨o',q⟩:=un4.there b o e hx;⟨o',k5 b _ (neC b o e) q⟩
    tups:=fun b xs e=>by rw[Zg (Zz e (I2.hok.fresh (Nat.le_refl _)))];exact un4.tups b xs e
    frzs:=fun b o u e=>by rw[Zg (Zz e (I2.hok.fresh (Nat.le_refl _)))];exact un4.frzs b o u e
    tbls:=fun b ps e=>by rw[Zg (Zz e (I2.hok.fresh (Nat.le_refl _)))];exact un4.tbls b ps e}
   refine⟨.ref s2.heap.objs.size,_,I2.call' (s':={s4 with heap:=h5}) ((show s4.os=s2.os from I4.os)) un5 hok5 I4.bare (fun b hb=>?_),rfl,qn _ pD4.2.1⟩
   obtain⟨_,f1,f3,f4,f5,f6⟩:=f2 b hb
   exact⟨f4,f1,f5,f6⟩
  ·refine thn (T.item (Z7 X scope cl G.objs.size N fp s2 H2) rfl rfl rfl hc i _ s3 σ3 H3 (fun _ _=>False) I3 (stat (Nat.le_refl _) fr3) st3 go) fun r s4⟨u,hr,h4⟩=>?_
   subst hr
   refine thn h4 fun _ s5⟨x,H5,I5,r5,y5,st5,fr5⟩=>?_
   have I5':=I5.pinned (stat (Nat.le_refl _) fr5) (T.obj _ _ st5)
   refine thn (hg _ _ _ _ _ s5 σ3 H5 x u _ I5' r5 (step x H5 y5)) fun _ s6⟨σ6,H6,I6,q6⟩=>?_
   refine thn (ht _ _ _ _ _ s6 σ6 H6 _ I6 q6) fun ok s7⟨H7,I7,q7⟩=>?_
   have back:∀{σ8:St}{H8:Hp}{s8:Shared}{pl:List (Addr×Obj)},Inv (Z7 X scope cl G.objs.size N fp s2 H2) (pl++Yn fp s5.heap) σ8 H8 s8->tn (i+1) s8.heap/\∀b∈fp,H8 b=none:=fun{σ8 H8 s8 pl} I8=>
    ⟨T.keep _ _ _ st5 fun b hb o e=>(I8.pin (b,o) (List.mem_append_right _ (List.mem_append_right _ (Yl hb e)))).1,fun b hb=>by
     obtain⟨o,e,d⟩:=T.obj _ _ st5 b hb
     exact(I8.pin (b,o) (List.mem_append_right _ (List.mem_append_right _ (Yl hb e)))).2.1⟩
   cases ok with
   |false=>
    rw[if_neg Bool.false_ne_true]at q7⊢
    obtain⟨m',hm,w7⟩:=hNN _ _ _ q7
    exact⟨m',hm,i+1,ys,its,k,σ6,H7,I7.unpinned,rv,(back I7).1,(back I7).2,w7⟩
   |true=>
    rw[if_pos rfl]at q7⊢
    refine thn (he _ _ _ _ _ s7 σ6 H7 _ I7 q7) fun y s8⟨v8,H8,I8,r8,q8⟩=>?_
    obtain⟨m',hm,w8⟩:=hNN _ _ _ q8
    have pD8:=I8.pin _ (List.mem_append_right _ (List.mem_append_left _ (.head _)))
    have hl:=rv.length
    refine wpAny_list_append_plain ⟨k,pD8.1⟩ (fun h9 pl9 sb9=>?_) (by rw[List.size_toArray];omega)
    obtain⟨k9,e9⟩:=pl9
    have e9':h9.get? s2.heap.objs.size=some {cls:= .type "list",data:= .seq (List.toArray (its++[y])) k9}:=by rw[e9];simp
    have I8':Inv (Z7 X scope cl G.objs.size N fp s2 H2) (Yn fp s5.heap) σ6 H8 s8:=I8.pins_of fun p hp=>I8.pin p (List.mem_append_right _ (List.mem_append_right _ hp))
    have I9:Inv (Z7 X scope cl G.objs.size N fp s2 H2) (Yn fp s5.heap) σ6 H8 {s8 with heap:=h9}:=I8'.turned (it:=s2.heap.objs.size) (t':=s8.toks) (fun b o hb e=>sb9.extBut b o hb e) pD8.2.1 pD8.2.2.1 (.inr (Nat.le_refl _))
     (fun x c e z=>by
      obtain⟨vc,oc,hoc,hd⟩:=I8.cell x c e
      rw[z,pD8.1]at hoc
      cases hoc
      cases hd)
     fun p hp z=>by
      have hp':p∈Yn fp s5.heap:=by simpa[Z7]using hp
      obtain⟨q1,q2⟩:=J8 hp'
      obtain⟨ob,eb,_⟩:=T.obj _ _ st2 p.1 q1
      exact Nat.lt_irrefl _ (by have:=Heap.lt_size eb;rw[z]at this;exact this)
    have hk9:∀b∈fp,∀o,s8.heap.get? b=some o->h9.get? b=some o:=fun b hb o e=>sb9.extBut b o (fun z=>by
     obtain⟨ob,eb,_⟩:=T.obj _ _ st2 b hb
     exact Nat.lt_irrefl _ (by have:=Heap.lt_size eb;rw[z]at this;exact this)) e
    refine⟨m',hm,i+1,ys++[v8],its++[y],k9,σ6,H8,I9.pins_of fun p hp=>?_,rv.append (.cons r8 .nil),T.keep _ _ _ (back I8).1 hk9,(back I8).2,w8⟩
    have e:p=(s2.heap.objs.size,{cls:= .type "list",data:= .seq (List.toArray (its++[y])) k9}):=by simpa using hp
    subst e
    exact⟨e9',pD8.2.1,pD8.2.2.1,pD8.2.2.2.1,fun v z=>nomatch z⟩
 exact codeAny_compStart_list (loop _ rfl) (T.self _ 0 _ _ _ (T.keep _ _ _ st2 fun b _ o e=>old b o e) (loop _ rfl))
theorem Zi4{K:PySem.W.Frag}{a:Addr}{xs:List V}{g:TG}{tt:TT}{te:TE}{σ:St}{H:Hp}{Q:VK}(Pv:Nat->List V->St->Hp->Prop)(hz:xs.length<=sizeLine)(h0:Pv 0 [] σ H)(hl:∀i ys σ H,i<=xs.length->Pv i ys σ H->SqT K H a xs/\ys.length<=i)
  (hs:∀i x ys σ H,xs[i]?=some x->Pv i ys σ H->g x σ H fun σ3 H3=>tt σ3 H3 fun b H4=>if b=true then te σ3 H4 fun v H5=>Pv (i+1) (ys++[v]) σ3 H5 else Pv (i+1) ys σ3 H4)
  (hd:∀ys σ H,Pv xs.length ys σ H->∀p,H p=none->Q (.ref p) (upd H p (.lst ys))):
  ∃W:Nat->Nat->List V->St->Hp->Prop,(∃m,W 0 m [] σ H)/\∀i m ys σ' H',W i m ys σ' H'->
   ((Itt K a).stop i H'/\ys.length<=sizeLine/\∀p,H' p=none->Q (.ref p) (upd H' p (.lst ys)))\/
   ((Itt K a).go i H'/\ys.length<sizeLine/\∃N:List V->St->Hp->Prop,(∀zs σ2 H2,N zs σ2 H2->∃m',m'<m/\W (i+1) m' zs σ2 H2)/\∀x H2,(Itt K a).yld i H' x H2->g x σ' H2 fun σ3 H3=>tt σ3 H3 fun b H4=>
    if b=true then te σ3 H4 fun v H5=>N (ys++[v]) σ3 H5 else N ys σ3 H4):=by
 refine⟨fun i m ys σ H=>m=xs.length-i/\i<=xs.length/\Pv i ys σ H,⟨xs.length,by simp,Nat.zero_le _,h0⟩,?_⟩
 rintro i m ys σ H ⟨rfl,hi,p⟩
 obtain⟨q,ql⟩:=hl i ys σ H hi p
 by_cases hlt:i<xs.length
 ·refine .inr ⟨⟨xs,xs[i],q,by simp[hlt]⟩,by omega,Pv (i+1),fun zs σ' H' p'=>⟨xs.length-(i+1),by omega,rfl,hlt,p'⟩,fun x H' y=>?_⟩
  obtain⟨e,y⟩:=y
  subst e
  exact hs i x ys σ _ (y xs q) p
 ·have e:i=xs.length:=by omega
  subst e
  exact .inl ⟨⟨xs,q,Nat.le_refl _⟩,by omega,hd ys σ H p⟩
def BM(mg:Str->Option Value)(h:Heap):Prop:=
 ∃bm ob,mg "__builtins__"=some (.ref bm)/\bm≠builtinsNs/\h.get? bm=some ob/\ob.cls= .type "module"/\ob.dict=some builtinsNs/\ob.data= .plain
theorem ZeJ{P:Program}{w:World}{K:PySem.W.Frag}{mg mb:Str->Option Value}{CX:CXT}{k:Nat}{fa a:Addr}{fd:FuncData}{x:Str}{sp:Sp}{s₁:Shared}{vs:List Value}{ns:List Int}{ts:List Addr}
  (KX:K.In s₁.heap)(hns:s₁.heap.Ns mainGlobals mg)(hb:s₁.heap.Ns builtinsNs mb)(hbb:∀x:Str,x≠"__name__"->mb x=bootBuiltins x) (hlim:s₁.heap.NoLimit) (hg:s₁.gens=#[])
  (ha:s₁.heap.get? a=some {cls:= .type "list",data:= .seq vs.toArray}) (hi:IntsAre vs ns) (hl:ns.length<=sizeLine) (hr:Room k callerA)
  (hT:∀Pt∈ts,s₁.heap.get? Pt=some (PySem.W.tabObj #[])/\isCodeTable s₁.heap Pt) (hKn:PySem.W.noTabs K=true) (hbm:BM mg s₁.heap)
  (F:∀base:Heap,K.In base->base.Ns mainGlobals mg->BM mg base->FnOk P w K mg base CX k fa fd [x] sp) (hbind:∀(s:Shared)(u:Value),BindsTo s fd ⟨[u],[]⟩ [(x,u)])
  (hsp:∀H:Hp,(∀Pt∈ts,H Pt=some (.tbl #[]))->SqL K H a (ns.map V.int)->sp [.ref a] H (fun v _=>v= .bl true) fun _ _ _=>False)
  (hCX:∀H e s',CX [] H s₁ (fun _ _ _=>False) e s'->False):
  codeAny (model P w) callerA (.call (.ref fa) ⟨[.ref a],[]⟩) (fun r s'=>r= .ok (.ret (.bool true))/\OldK s₁.heap s'.heap/\s'.os=s₁.os/\AllBare s'.gens) s₁:=by
 have rv:=Zam hi
 have lenV:=hi.length
 have aT:a ∉ ts:=fun z=>by
  have e:=(hT a z).1
  rw[ha]at e
  cases e
 have core:∀H:Hp,SqL K H a (ns.map V.int)->HOk P w H s₁.heap->(∀b,H b≠none->b=a\/b∈ts)->(H a≠none->K.lookup a=none)->(∀u,H a=some u->∃o xs,u= .frz o (.lst xs))->(∀Pt∈ts,H Pt=some (.tbl #[]))->
   codeAny (model P w) callerA (.call (.ref fa) ⟨[.ref a],[]⟩) (fun r s'=>r= .ok (.ret (.bool true))/\OldK s₁.heap s'.heap/\s'.os=s₁.os/\AllBare s'.gens) s₁:=by
  intro H hS hok hA hK hfz htb
  have base_of:∀{b:Addr}{o:Obj},s₁.heap.get? b=some o->H b=none->(Zb6 s₁.heap H).get? b=some o:=fun e n=>Zga e n
  have free_of:∀{b:Addr}{o:Obj},s₁.heap.get? b=some o->o≠{cls:= .type "list",data:= .seq vs.toArray}->o≠PySem.W.tabObj #[]->H b=none:=fun{b o} e n1 n2=>by
   cases q:H b with
   |none=>rfl
   |some u=>
    rcases hA b (by rw[q];simp)with z|z
    ·subst z
     rw[ha]at e;cases e
     exact absurd rfl n1
    ·rw[(hT b z).1]at e;cases e
     exact absurd rfl n2
  have noA:∀{b:Addr}{o:Obj}{es:Array DictEntry}{ep:Nat},s₁.heap.get? b=some o->o.data= .dict es ep->H b=none:=fun{b o es ep} e d=>
   free_of e (fun z=>by rw[z]at d;cases d) fun z=>by rw[z]at d;cases d
  have nsK:∀{b:Addr}{m:Str->Option Value},s₁.heap.Ns b m->(Zb6 s₁.heap H).Ns b m:=fun{b m}⟨o,es,ep,e,d,r⟩=>⟨o,es,ep,base_of e (noA e d),d,r⟩
  have hKb:K.In (Zb6 s₁.heap H):=fun b o e=>base_of (KX b o e) (by
   cases q:H b with
   |none=>rfl
   |some u=>
    rcases hA b (by rw[q];simp)with z|z
    ·subst z
     rw[hK (by rw[q];simp)]at e;cases e
    ·have e1:=(hT b z).1
     rw[KX b o e]at e1
     cases e1
     have h2:=List.all_eq_true.mp hKn (b,_) (PySem.W.mem_of_lookupK e)
     exact absurd (show false=true from h2) Bool.false_ne_true)
  have hM:Mod K mg (Zb6 s₁.heap H):=⟨hKb,nsK hns,⟨mb,nsK hb,hbb⟩,let⟨mc,h1,h2⟩:=hlim;⟨mc,nsK h1,h2⟩⟩
  have hBM:BM mg (Zb6 s₁.heap H):=by
   obtain⟨bm,ob,b1,b2,b3,b4,b5⟩:=hbm
   exact⟨bm,ob,b1,b2,base_of b3 (free_of b3 (fun z=>by rw[z]at b4;exact absurd (Value.type.inj b4) (by decide)) fun z=>by rw[z]at b4;cases b4),b4,b5⟩
  have e0:Env0 P w K mg (Zb6 s₁.heap H) callerA [] s₁ H:=⟨rfl,hM,fun b o e=>ZgM e,Nat.le_of_eq (ZeO _ _),trivial,fun b hb=>absurd (show b∈([]:List Addr)from hb) (by simp),hok,.of_eq hg⟩
  refine codeAny_mono ((F _ hKb (nsK hns) hBM).run callerA [] s₁ H ⟨[.ref a],[]⟩ [.ref a] [.ref a] _ _ hr e0 (hbind s₁ (.ref a)) (.cons rfl .nil) (hsp H htb hS)) fun r s' h=>?_
  cases r with
  |error e=>exact(hCX H e s' h).elim
  |ok fl=>
   cases fl with
   |next=>exact False.elim h
   |brk=>exact False.elim h
   |cont=>exact False.elim h
   |ret u=>
    obtain⟨v,H',os,bare,un,hok',r',q⟩:=h
    have q':v= .bl true:=q
    subst q'
    obtain rfl:u=Value.bool true:=r'
    have key:∀b o,s₁.heap.get? b=some o->s'.heap.get? b=some o\/(b∈ts/\o=PySem.W.tabObj #[]/\∃ps,s'.heap.get? b=some (PySem.W.tabObj ps)):=fun b o e=>by
     cases q:H b with
     |none=>exact .inl (un.keep b o e q (by intro z;exact absurd (show b∈([]:List Addr)from z) (by simp)) (by simp))
     |some u=>
      rcases hA b (by rw[q];simp)with z|z
      ·subst z
       obtain⟨ob,xs,rfl⟩:=hfz u q
       have z2:=un.frzs b ob _ q
       obtain⟨e1,_⟩:=hok b _ q
       obtain⟨e2,_⟩:=hok' b _ z2
       rw[e]at e1;cases e1
       exact .inl e2
      ·have e1:=(hT b z).1
       rw[e]at e1;cases e1
       obtain⟨more,z2⟩:=un.tbls b _ (htb b z)
       exact .inr ⟨z,rfl,_,hok' b _ z2⟩
    refine⟨rfl,⟨fun b o e=>?_,fun b o e=>?_⟩,os,bare⟩
    ·rcases key b o e with z|⟨z,rfl,ps,z2⟩
     ·exact .inl z
     ·exact .inr (.inl ⟨(hT b z).2,rfl,#[],ps,rfl,by rw[z2];simp⟩)
    ·rcases key b o e with z|⟨z,rfl,ps,z2⟩
     ·exact⟨_,z⟩
     ·exact⟨_,z2⟩
 have tOk:∀{H:Hp}{Pt:Addr},Pt∈ts->ObjOk P w H s₁.heap Pt (.tbl #[]):=fun{H Pt} z=>(hT Pt z).1
 cases hk:K.lookup a with
 |some o=>
  have e:=KX a o hk
  rw[ha]at e
  cases e
  refine core (fun b=>if b∈ts then some (.tbl #[])else none) (.inr ⟨_,vs.toArray,_,hk,rfl,rfl,rfl,by rw[List.size_toArray,lenV];exact hl,by simpa using rv⟩) (fun b u z=>?_) (fun b z=>?_) (fun z=>absurd (if_neg aT) z) (fun u z=>by rw[if_neg aT]at z;cases z) fun Pt z=>if_pos z
  ·by_cases hb:b∈ts
   ·have z':=(if_pos hb).symm.trans z
    cases z'
    exact tOk hb
   ·have z':=(if_neg hb).symm.trans z
    cases z'
  ·by_cases hb:b∈ts
   ·exact .inr hb
   ·exact absurd (if_neg hb) z
 |none=>
  refine core (fun b=>if b=a then some (.frz {cls:= .type "list",data:= .seq vs.toArray} (.lst (ns.map V.int)))else if b∈ts then some (.tbl #[])else none) (.inl (.inr ⟨{cls:= .type "list",data:= .seq vs.toArray},if_pos rfl⟩)) (fun b u z=>?_) (fun b z=>?_) (fun _=>hk)
   (fun u z=>by rw[if_pos rfl]at z;cases z;exact⟨_,_,rfl⟩) fun Pt z=>by rw[if_neg (fun(q:Pt=a)=>aT (q▸z)),if_pos z]
  ·by_cases hb:b=a
   ·have z':=(if_pos hb).symm.trans z
    cases z'
    subst hb
    exact⟨ha,by rw[List.length_map];exact hl,vs,_,rv,ha⟩
   ·have z':=(if_neg hb).symm.trans z
    by_cases hb2:b∈ts
    ·rw[if_pos hb2]at z'
     cases z'
     exact tOk hb2
    ·rw[if_neg hb2]at z'
     cases z'
  ·by_cases hb:b=a
   ·exact .inl hb
   ·by_cases hb2:b∈ts
    ·exact .inr hb2
    ·exact absurd ((if_neg hb).trans (if_neg hb2)) z
theorem Zfg{l:PySem.W.OpenLaw}{n k:Nat}{q:Program}{loose:List Str}{XP:(Str->Option Value)->Heap->Prop}{YP:World->Heap->Prop}{d:DefRec}{K:Params->PySem.W.Frag}{sp:PySem.W.Frag->Sp}{x:Str}{ts:List Addr}
  (hn:l.most=some n)(hn2:n<=sizeLine)(hdf:d.params.defaults=[])(hr:Room k callerA)
  (hY:∀(w:World)(h:Heap),YP w h->(K w.params).In h) (hY2:∀(w:World)(h:Heap),YP w h->∀Pt∈ts,h.get? Pt=some (PySem.W.tabObj #[]))
  (hKn:∀w:World,PySem.W.noTabs (K w.params)=true) (hC:∀w:World,∀Pt∈ts,∃c,PySem.W.codeHdIn (K w.params) c Pt=true)
  (F:∀(w:World)(mg:Str->Option Value)(fa:Addr)(h:Heap),(K w.params).In h->h.Ns mainGlobals mg->mg d.name=some (.ref fa)->
   ∃fd:FuncData,(∀(s:Shared)(u:Value),BindsTo s fd ⟨[u],[]⟩ [(x,u)])/\
    ∀base:Heap,(K w.params).In base->base.Ns mainGlobals mg->BM mg base->FnOk l.prog w (K w.params) mg base CX0 k fa fd [x] (sp (K w.params)))
  (hsp:∀(K:PySem.W.Frag)(H:Hp)(a:Addr)(ns:List Int),ns.length<=n->(∀Pt∈ts,H Pt=some (.tbl #[]))->SqL K H a (ns.map V.int)->sp K [.ref a] H (fun v _=>v= .bl true) fun _ _ _=>False):
  PySem.W.WalkO q loose XP YP l.row.toRowW d [] (fun f vs=>PySem.call f vs):=by
 refine Att.attach_call hn hdf fun w s₀ s₁ mg mb fa o pm cd doc a vs ns G Y ho hd hcd hmg hobj hints hlen hg=>?_
 have KX:=hY w _ Y
 obtain⟨fd,hb,hF⟩:=F w mg fa _ KX G.T.g hmg
 refine ZeJ KX G.T.g G.T.b G.T.builtins G.T.nolimit hg hobj hints (Nat.le_trans hlen hn2) hr (fun Pt hP=>⟨hY2 w _ Y Pt hP,?_⟩) (hKn w) G.T.bmain hF hb (fun H hT hS=>hsp (K w.params) H a ns hlen hT hS) fun H e s' z=>z
 obtain⟨c,hc⟩:=hC w Pt hP
 exact((PySem.W.codeHd_of_K KX hc).tab (hY2 w _ Y Pt hP)).isCodeTable
def Zda(P:Program)(w:World)(K:PySem.W.Frag)(mg:Str->Option Value)(base:Heap)(N:List Str)(qual:Str)(scope:Scope)(cl:List (Str×Addr))(f c':Addr)(A:Around)(outer:List Env)(s:Shared)(H:Hp):Cx where
 prog:=P
 w:=w
 K:=K
 mg:=mg
 base:=base
 A:=A.deeper (PySem.W.envX qual scope s.heap.objs.size f (.ref c') cl)
 N:=N
 s₀:=s
 H₀:=H
 env:=PySem.W.envX qual scope s.heap.objs.size f (.ref c') cl
 outer:=outer
 stack:=PySem.W.envX qual scope s.heap.objs.size f (.ref c') cl::outer
 ex:=[]
 calm:=true
 fn:=fun _=>false
 pn:=[]
 xe:=fun _ _=>False
structure Lam(x:Str)(fr:List Str)(params:Arguments)(scope:Scope):Prop where
 kind:scope.kind= .function
 co:scope.isCoroutine=false
 gen:scope.isGenerator=false
 cell:∀y∈scope.names,y.2≠.cell
 par:scope.names.lookup x=some .local
 bind:∀(nm qual:Str)(body:Expr)(cl:List (Str×Addr))(pm cdv ct u:Value),bindArgs (PySem.W.kla_fn nm qual params body scope cl pm cdv ct) ⟨[u],[]⟩=pure [(x,u)]
 free:∀y∈fr,scope.names.lookup y=some .free
def Zgt(cl:List (Str×Addr))(H:Hp)(h:Heap)(fr:List Str)(fv:List V):Prop:=
 fr.length=fv.length/\∀(i:Nat)(y:Str)(v:V),fr[i]?=some y->fv[i]?=some v->∃u c,RelV v u/\cl.lookup y=some c/\h.IsCell c (some u)
theorem Zeg{P:Program}{w:World}{K:PySem.W.Frag}{mg:Str->Option Value}{base:Heap}{k:Nat}{A:Around}{outer:List Env}{s:Shared}{H:Hp}{nm qual:Str}{params:Arguments}{body:Expr}{scope:Scope}{cl:List (Str×Addr)}{pm ctv u:Value}{c' f:Addr}{x:Str}{fr:List Str}{fv:List V}{v:V}{te:TE}{Q:VK}
  (L:Lam x fr params scope)(hr:Room (k+1) A)(e0:Env0 P w K mg base A outer s H)
  (hf:s.heap.get? f=some (PySem.W.kla_obj nm qual params body scope cl pm c' ctv))(hcd:s.heap.CodeRec (.ref c') qual)
  (hinj:∀y z c,cl.lookup y=some c->cl.lookup z=some c->y=z) (hhas:∀y∈scope.names,y.2= .free->(cl.lookup y.1).isSome=true) (hcells:∀y c,cl.lookup y=some c->(∃v,s.heap.IsCell c v)/\H c=none)
  (hC:Zgt cl H s.heap fr fv) (rv:RelV v u)
  (hbody:PE (Zda P w K mg base (x::fr) qual scope cl f c' A outer s H) body te) (hq:te (some v::fv.map some) H Q):
  codeAny (model P w) A (.call (.ref f) ⟨[u],[]⟩) (CR CX0 outer P w H s Q E0) s:=by
 have lim:s.heap.NoLimit:=e0.mod.nolimit.keeps fun b o e=>(e0.bs b o e).1
 refine PySem.W.kla_callFunE hr.depth hf rfl L.co L.gen rfl hcd ?_
 rw[L.bind]
 refine wpAny_pure (wpAny_newFunctionEnv L.cell (fun y hy=>?_) (fun h₁ hns hsb=>⟨lim.fresh _ hsb,?_⟩) L.kind)
 ·obtain rfl:y=(x,u):=List.mem_singleton.mp hy
  exact L.par
 show codeAny _ _ (.expr body (PySem.W.envX qual scope s.heap.objs.size f (.ref c') cl)) _ _
 have hk₁:∀b o,s.heap.get? b=some o->h₁.get? b=some o:=fun b o e=>hsb.extBut b o (Nat.ne_of_lt (Heap.lt_size e)) (Heap.get?_push_of_some _ e)
 have cellK:∀c v,s.heap.IsCell c v->h₁.IsCell c v:=fun c v⟨o,ho,hd⟩=>⟨o,hk₁ _ _ ho,hd⟩
 have noA:∀b:Addr,b ∉ (Zda P w K mg base (x::fr) qual scope cl f c' A outer s H).ex:=fun b z=>absurd (show b∈([]:List Addr)from z) (by simp)
 have I:Inv (Zda P w K mg base (x::fr) qual scope cl f c' A outer s H) [] (some v::fv.map some) H {s with heap:=h₁,toks:=s.toks+[(x,u)].length}:=by
  refine⟨⟨e0.mod,L.kind,rfl,rfl,Nat.le_refl _,hinj,fun y hy=>?_,fun y c h _=>(Bool.false_ne_true h).elim,fun _=>hr.hd,Around.frames_deeper e0.frames,.inr ⟨rfl,rfl⟩,fun b z=>absurd z (noA b),e0.bs,e0.bsz,fun b _ _=>noA b,fun b z=>absurd z (noA b),e0.funs,e0.frf⟩,
   rfl,e0.bare,Un.kept hk₁,⟨_,hns,fun i y z h1 h2 h3=>?_⟩,fun y c h=>?_,e0.hok.fresh (Nat.le_refl _),fun y c h=>(hcells y c h).2,fun p hp=>absurd (show p∈([]:List (Addr×Obj))from hp) (by simp),e0.hok.kept hk₁,?_⟩
  ·have hy':scope.names.lookup y=some .cell\/scope.names.lookup y=some .free:=hy
   rcases hy' with q|q
   ·exact absurd rfl (L.cell _ (PySem.mem_of_lookup q))
   ·exact Option.isSome_iff_exists.mp (hhas (y,.free) (PySem.mem_of_lookup q) rfl)
  ·cases i with
   |zero=>
    have e1:x=y:=by simpa using(show(x::fr)[0]?=some y from h1)
    have e2:v=z:=by simpa using h2
    subst e1
    subst e2
    refine⟨u,rv,.inl ⟨L.par,?_⟩⟩
    simp
   |succ j=>
    have e1:fr[j]?=some y:=by simpa using(show(x::fr)[j+1]?=some y from h1)
    have e2:fv[j]?=some z:=by
     have:=h2
     simp only[List.getElem?_cons_succ,List.getElem?_map]at this
     cases q:fv[j]? with
     |none=>rw[q]at this;cases this
     |some a=>rw[q]at this;cases this;rfl
    obtain⟨u',c,r,l,ce⟩:=hC.2 j y z e1 e2
    exact⟨u',r,.inr ⟨.inr (L.free y (List.mem_of_getElem? e1)),c,l,cellK _ _ ce⟩⟩
  ·obtain⟨⟨z,q⟩,_⟩:=hcells y c h
   exact⟨z,cellK _ _ q⟩
  ·show(some v::fv.map some).length=(x::fr).length
   simp[hC.1]
 refine PySem.W.kla_codeExpr (wpAny_mono (hbody [] _ _ H Q I hq) (fun z s' hs=>?_) fun _ _ z=>z.elim)
 obtain⟨v',H',J,r',q'⟩:=hs
 exact⟨v',H',J.os,J.bare,J.base,J.hok,r',q'⟩
def Zfe(qual:Str)(c':Addr):HO:= .ext fun h=>h.CodeRec (.ref c') qual
def TabI(P:Addr)(pos:Pos)(qual:Str)(H:Hp):Prop:=
 H P=some (.tbl #[])\/∃c',H P=some (.tbl #[rawInt pos.line,rawInt pos.col,.ref c'])/\H c'=some (Zfe qual c')
structure Gr(P:Addr)(pos:Pos)(qual:Str)(H H':Hp):Prop where
 keep:∀b o,H b=some o->b≠P->H' b=some o
 tab:TabI P pos qual H'
theorem Gr.refl{P:Addr}{pos:Pos}{qual:Str}{H:Hp}(h:TabI P pos qual H):Gr P pos qual H H:=⟨fun _ _ e _=>e,h⟩
theorem Gr.trans{P:Addr}{pos:Pos}{qual:Str}{H H1 H2:Hp}(a:Gr P pos qual H H1)(b:Gr P pos qual H1 H2):Gr P pos qual H H2:=⟨fun c o e n=>b.keep c o (a.keep c o e n) n,b.tab⟩
theorem TabI.same{P:Addr}{pos:Pos}{qual:Str}{H H':Hp}(h:TabI P pos qual H)(s:Same H H'):TabI P pos qual H':=by
 rcases h with h|⟨c',h1,h2⟩
 ·exact .inl (s _ _ h)
 ·exact .inr ⟨c',s _ _ h1,s _ _ h2⟩
theorem Gr.same{P:Addr}{pos:Pos}{qual:Str}{H H1 H2:Hp}(a:Gr P pos qual H H1)(b:Same H1 H2):Gr P pos qual H H2:=⟨fun c o e n=>b c o (a.keep c o e n),a.tab.same b⟩
theorem Zdb{h:Heap}{c':Addr}{qual:Str}(x:h.CodeRec (.ref c') qual):∃o,h.get? c'=some o:=by
 obtain⟨c,oc,vs,t,e,ho,_⟩:=x
 cases e
 exact⟨oc,ho⟩
theorem Zby{h1 h2:Heap}{c':Addr}{qual:Str}(x:h1.CodeRec (.ref c') qual)(k:∀o,h1.get? c'=some o->h2.get? c'=some o):h2.CodeRec (.ref c') qual:=by
 obtain⟨c,oc,vs,t,e,ho,r⟩:=x
 cases e
 exact⟨c',oc,vs,t,rfl,k _ ho,r⟩
theorem ZcP{X:Cx}{pins:List (Addr×Obj)}{σ:St}{H:Hp}{s:Shared}{qual0:Str}{params:Arguments}{body:Expr}{scope:Scope}{cl:List (Str×Addr)}{c P:Addr}{pos:Pos}{E:Value->Shared->Prop}{Q:Value->Shared->Prop}
  (I:Inv X pins σ H s)(hbm:BM X.mg X.base)(hcl:closureFor scope X.env=pure cl)(hcode:X.env.code= .ref c)(hC:PySem.W.codeHdIn X.K c P=true)(hq0:X.env.qual++"<lambda>"=qual0)(hdef:defaultsOf params X.env=([],[]))
  (htab:TabI P pos qual0 H)
  (k:∀f c' pm ctv s' H',Inv X pins σ H' s'->Gr P pos qual0 H H'->s'.heap.get? f=some (PySem.W.kla_obj "<lambda>" qual0 params body scope cl pm c' ctv)->s.heap.objs.size<=f->H' f=none->H' c'=some (Zfe qual0 c')->Q (.ref f) s'):
  wpAny (model X.prog X.w) X.A (eval (.Lambda params body scope pos) X.env) Q E s:=by
 refine PySem.W.kla_eval hdef ?_
 rw[hq0]
 have hgs:s.heap.Ns mainGlobals X.mg:=I.mod.glob.keeps I.bk
 have Ch:PySem.W.CodeHd s.heap c P:=PySem.W.codeHd_of_K I.kIn hC
 obtain⟨bm,ob,b1,b2,b3,b4,b5,b6⟩:=hbm
 have b3':=I.bk _ _ b3
 have bmH:H bm=none:=(I.bs _ _ b3).2
 have hbG:bm≠mainGlobals:=fun q=>by
  obtain⟨o,es,ep,e,hd,_⟩:=hgs
  rw[q,e]at b3';cases b3';rw[hd]at b6;cases b6
 rcases htab with h0|⟨c',h1,h2⟩
 ·have hP:s.heap.get? P=some (PySem.W.tabObj #[]):=I.hok P _ h0
  have hgP:mainGlobals≠P:=fun q=>by
   obtain⟨o,es,ep,e,hd,_⟩:=hgs
   rw[q,hP]at e;cases e;cases hd
  have hbP:bm≠P:=fun q=>by rw[q,h0]at bmH;cases bmH
  refine PySem.W.kla_makeFunction (mg:=X.mg) hcl I.ok.glob hgs hcode Ch hP trivial rfl hgP ⟨bm,ob,b1,b2,hbG,hbP,b3',b4,b5,b6⟩ fun c' ctv h' tk hx hge hlt hrec htb=>?_
  have hrec':(h'.push (PySem.W.kla_obj "<lambda>" qual0 params body scope cl ((X.mg "__name__").getD .none) c' ctv)).CodeRec (.ref c') qual0:=Zby hrec fun o e=>Heap.get?_push_of_some _ e
  have hPc:P≠c':=fun z=>Nat.lt_irrefl _ (Nat.lt_of_lt_of_le (Heap.lt_size hP) (by rw[z];exact hge))
  have kp:∀b o,b≠P->s.heap.get? b=some o->(h'.push (PySem.W.kla_obj "<lambda>" qual0 params body scope cl ((X.mg "__name__").getD .none) c' ctv)).get? b=some o:=fun b o hb e=>Heap.get?_push_of_some _ (hx b o hb e)
  have hc0:H c'=none:=I.hok.fresh hge
  have nP:∀b,H b=none->b≠P:=fun b n z=>by rw[z,h0]at n;cases n
  have hN:∀b u,H b=some u->b≠c':=fun b u e=>Zz e hc0
  have htb':(h'.push (PySem.W.kla_obj "<lambda>" qual0 params body scope cl ((X.mg "__name__").getD .none) c' ctv)).get? P=some (PySem.W.tabObj #[rawInt pos.line,rawInt pos.col,.ref c']):=by
   have:=Heap.get?_push_of_some (PySem.W.kla_obj "<lambda>" qual0 params body scope cl ((X.mg "__name__").getD .none) c' ctv) htb
   simpa using this
  have hsz:s.heap.objs.size<=h'.objs.size:=Nat.le_of_lt (Nat.lt_of_le_of_lt hge hlt)
  refine k _ c' _ ctv _ (upd (upd H P (.tbl #[rawInt pos.line,rawInt pos.col,.ref c'])) c' (Zfe qual0 c')) (I.un (t':=tk) ?_ ?_) ⟨fun b o e n=>?_,.inr ⟨c',?_,Zf⟩⟩ (Heap.get?_push_size _ rfl) hsz ?_ Zf
  ·exact{
    keep:=fun b o e n _ _=>kp b o (nP b n) e
    slot:=fun b o e n _ _=>⟨o.slots,kp b o (nP b n) e⟩
    free:=fun b o e n _=>by rw[Zg (Nat.ne_of_lt (Nat.lt_of_lt_of_le (Heap.lt_size e) hge)),Zg (nP b n)];exact n
    there:=fun b o e _=>by
     by_cases hb:b=P
     ·exact⟨_,hb▸htb'⟩
     ·exact⟨o,kp b o hb e⟩
    tups:=fun b xs e=>by rw[Zg (hN b _ e),Zg (fun z=>by rw[z,h0]at e;cases e)];exact e
    frzs:=fun b o u e=>by rw[Zg (hN b _ e),Zg (fun z=>by rw[z,h0]at e;cases e)];exact e
    tbls:=fun b ps e=>by
     by_cases hb:b=P
     ·subst hb
      rw[h0]at e
      cases e
      exact⟨#[rawInt pos.line,rawInt pos.col,.ref c'],by rw[Zg hPc,Zf];simp⟩
     ·exact⟨#[],by rw[Zg (hN b _ e),Zg hb,e];simp⟩}
  ·intro b u e
   by_cases hb:b=c'
   ·subst hb
    rw[Zf]at e
    cases e
    exact⟨hrec',Zdb hrec',fun h1 h2 x q=>Zby x fun o e=>q o e⟩
   ·rw[Zg hb]at e
    by_cases hb2:b=P
    ·subst hb2
     rw[Zf]at e
     cases e
     exact htb'
    ·rw[Zg hb2]at e
     refine(I.hok b u e).stay (fun d v hd q=>kp d v ?_ q) (fun d q=>by rw[Zg (hN d _ q),Zg (fun z=>by rw[z,h0]at q;cases q)];exact q) fun d xs q=>by rw[Zg (hN d _ q),Zg (fun z=>by rw[z,h0]at q;cases q)];exact q
     rcases hd with z|z
     ·rw[z];exact hb2
     ·intro z2
      rw[z2,h0]at z
      cases z
  ·rw[Zg (hN b o e),Zg n];exact e
  ·rw[Zg hPc,Zf]
  ·rw[Zg (Nat.ne_of_gt hlt),Zg (Nat.ne_of_gt (Nat.lt_of_lt_of_le (Heap.lt_size hP) hsz))]
   exact I.hok.fresh hsz
 ·have hP:s.heap.get? P=some (PySem.W.tabObj #[rawInt pos.line,rawInt pos.col,.ref c']):=I.hok P _ h1
  have hbP:bm≠P:=fun q=>by rw[q,h1]at bmH;cases bmH
  refine PySem.W.kla_makeFunctionHit (mg:=X.mg) hcl I.ok.glob hgs hcode Ch hP trivial (cv:= .ref c') (by simp[codeAmong,rawInt]) ⟨bm,ob,b1,b2,hbG,hbP,b3',b4,b5,b6⟩ fun ctv h' tk hk hsz=>?_
  exact k _ c' _ ctv _ H (I.kept (t':=tk) fun b o e=>Heap.get?_push_of_some _ (hk b o e)) (.refl (.inr ⟨c',h1,h2⟩)) (Heap.get?_push_size _ rfl) hsz (I.hok.fresh hsz) h2
theorem FpOk.pin1{X:Cx}{pins pins':List (Addr×Obj)}{σ:St}{H:Hp}{s:Shared}{b:Addr}{o:Obj}(f:FpOk X pins H b)(_:Inv X pins' σ H s)(e:s.heap.get? b=some o)(d:∀v,o.data≠.cell v):
  s.heap.get? (b,o).1=some (b,o).2/\H (b,o).1=none/\(b,o).1≠X.env.locals/\(b,o).1 ∉ X.fs/\∀v,(b,o).2.data≠.cell v:=⟨e,f.1,f.2.1,f.2.2.1,d⟩
section
variable{X:Cx}{pins:List (Addr×Obj)}{σ:St}{H:Hp}{s:Shared}{A:Around}{E:Value->Shared->Prop}{a kS:Addr}{b:Bool}{vs:List Value}{kz:List Int}{keys:Array Value}{e e1:Nat}{P:PySem.Fin->Shared->Prop}
theorem Inv.own1{c:Addr}{h':Heap}(I:Inv X pins σ H s)(f:FpOk X pins H c)(hs:Heap.SameBut c s.heap h'):Inv X pins σ H {s with heap:=h'}:=
 I.turned (t':=s.toks) (it:=c) (fun d o hd q=>(hs.2 d hd).trans q) f.1 f.2.1 f.2.2.2.1 f.2.2.2.2.1 f.2.2.2.2.2
theorem Inv.track{D:Addr}{o:HO}(I:Inv X pins σ H s)(f:FpOk X pins H D)(hD:X.s₀.heap.objs.size<=D)(new:ObjOk X.prog X.w (upd H D o) s.heap D o):Inv X pins σ (upd H D o) s:=by
 have ne:∀c u,H c=some u->c≠D:=fun c u q=>Zz q f.1
 refine⟨I.ok,I.os,I.bare,⟨I.base.keep,I.base.slot,fun c ob q n hx=>?_,I.base.there,fun c xs q=>?_,fun c ob u q=>?_,fun c ps q=>?_⟩,I.loc,I.cell,?_,fun x c q=>?_,fun p hp=>?_,fun c u q=>?_,I.len⟩
 ·rw[Zg (Nat.ne_of_lt (Nat.lt_of_lt_of_le (Heap.lt_size q) hD))]
  exact I.base.free c ob q n hx
 ·have z:=I.base.tups c xs q
  rw[Zg (ne c _ z)];exact z
 ·have z:=I.base.frzs c ob u q
  rw[Zg (ne c _ z)];exact z
 ·obtain⟨more,z⟩:=I.base.tbls c ps q
  exact⟨more,by rw[Zg (ne c _ z)];exact z⟩
 ·rw[Zg (Ne.symm f.2.1)];exact I.free
 ·rw[Zg (f.2.2.2.2.1 x c q)];exact I.freeC x c q
 ·obtain⟨p1,p2,p3⟩:=I.pin p hp
  exact⟨p1,by rw[Zg (f.2.2.2.2.2 p hp)];exact p2,p3⟩
 ·by_cases hc:c=D
  ·subst hc;rw[Zf]at q;cases q;exact new
  ·rw[Zg hc]at q
   exact(I.hok c u q).stay (fun _ _ _ r=>r) (fun d r=>by rw[Zg (ne d _ r)];exact r) fun d xs r=>by rw[Zg (ne d _ r)];exact r
theorem ZbE{st:SortSt}(I:Inv X pins σ H s)(fk:FpOk X pins H kS)(fa:FpOk X pins H a)(hka:kS≠a)(nk:s.heap.get? kS=some (seqObj "list" keys e))(na:s.heap.get? a=some (seqObj "list" #[] e1))
  (hk:IntsAre keys.toList kz)(hlen:kz.length=vs.length)(h64:vs.length<64)(hp:(arrOf st).Perm (keys.zip vs.toArray))(hs:SortedTo (arrOf st) (arrOf st).size)(hfl:failedOf st=none)
  (h:∀s' out c,Inv X pins σ H s'->s'.heap.get? a=some (seqObj "list" out c)->KskOut b kz vs out.toList->P (.done (.ret .none)) s'):
  wpAny (model X.prog X.w) A (ksk_tail a b e1 (.ref kS) st) P E s:=by
 have hsz:keys.size=vs.length:=by
  have h1:=hk.length
  rw[Array.length_toList]at h1
  omega
 have hsz2:(arrOf st).size=vs.length:=by rw[hp.size_eq,Array.size_zip,hsz,List.size_toArray,Nat.min_self]
 have hout:(if b then((arrOf st).map (·.2)).reverse else(arrOf st).map (·.2)).size=vs.length:=by
  cases b with
  |false=>simp only[Bool.false_eq_true,if_false,Array.size_map];exact hsz2
  |true=>simp only[if_true,Array.size_reverse,Array.size_map];exact hsz2
 have s1:=Heap.SameBut.update s.heap kS (Obj.mapSeq fun _=>(#[]:Array Value))
 have na1:(s.heap.update kS (Obj.mapSeq fun _=>(#[]:Array Value))).get? a=some (seqObj "list" #[] e1):=(s1.2 a hka.symm).trans na
 have s2:=Heap.SameBut.update (s.heap.update kS (Obj.mapSeq fun _=>(#[]:Array Value))) a (Obj.mapSeq fun _=>if b then((arrOf st).map (·.2)).reverse else(arrOf st).map (·.2))
 obtain⟨c2,hc2⟩:∃c2,((s.heap.update kS (Obj.mapSeq fun _=>(#[]:Array Value))).update a (Obj.mapSeq fun _=>if b then((arrOf st).map (·.2)).reverse else(arrOf st).map (·.2))).get? a=some (seqObj "list" (if b then((arrOf st).map (·.2)).reverse else(arrOf st).map (·.2)) c2):=
  ⟨_,get?_update_seq na1 fun _=>if b then((arrOf st).map (·.2)).reverse else(arrOf st).map (·.2)⟩
 have I1:=I.own1 fk s1
 have I2:=I1.own1 fa s2
 unfold ksk_tail
 try dsimp only
 refine wpAny_bind (listUpdate_at nk rfl ?_ (by rw[hsz,sizeLine_eq];omega) (Nat.zero_le _))
 refine wpAny_bind (wpAny_letGo ?_)
 refine wpAny_bind (seqEpoch_at na1 rfl ?_)
 refine wpAny_bind (listUpdate_at na1 rfl ?_ (Nat.zero_le _) (Nat.le_trans (Nat.le_of_eq hout) (by rw[sizeLine_eq];omega)))
 rw[hfl]
 simp only[bne_self_eq_false,Bool.false_eq_true,if_false]
 exact wpAny_pure (h _ _ c2 I2 hc2 (ksk_out hk hp hs))
theorem Zfo(I:Inv X pins σ H s)(fk:FpOk X pins H kS)(fa:FpOk X pins H a)(hka:kS≠a)(nk:s.heap.get? kS=some (seqObj "list" keys e))(na:s.heap.get? a=some (seqObj "list" #[] e1))
  (hk:IntsAre keys.toList kz)(hlen:kz.length=vs.length)(h64:vs.length<64)
  (h:∀s' out c,Inv X pins σ H s'->s'.heap.get? a=some (seqObj "list" out c)->KskOut b kz vs out.toList->P (.done (.ret .none)) s'):
  wpAny (model X.prog X.w) A (ksk_end a b vs.toArray e1 (.ref kS) keys) P E s:=by
 have hsz:keys.size=vs.length:=by
  have h1:=hk.length
  rw[Array.length_toList]at h1
  omega
 have hzs:(keys.zip vs.toArray).size=vs.length:=by rw[Array.size_zip,hsz,List.size_toArray,Nat.min_self]
 have step:∀t:Sem PySem.Fin,wpAny (model X.prog X.w) A t P E s->wpAny (model X.prog X.w) A (if b=true then(do let _<-rule "list.sort.reverse";t)else t) P E s:=by
  intro t ht
  split
  ·exact wpAny_bind (wpAny_rule ht)
  ·exact ht
 have hstart:(if b=true then(keys.zip vs.toArray).reverse else keys.zip vs.toArray).Perm (keys.zip vs.toArray):=by
  cases b with
  |false=>exact Array.Perm.refl _
  |true=>exact Array.perm_iff_toList_perm.mpr (by rw[if_pos rfl,Array.toList_reverse];exact List.reverse_perm _)
 unfold ksk_end
 try dsimp only
 refine step _ ?_
 by_cases h2:vs.toArray.size<2
 ·rw[if_pos h2,if_pos h2]
  refine wpAny_bind (wpAny_pure ?_)
  rw[StateT.run_pure]
  refine wpAny_bind (wpAny_pure ?_)
  try dsimp only
  refine ZbE (st:=SortSt.mk' general' (if b=true then(keys.zip vs.toArray).reverse else keys.zip vs.toArray) #[] 7 none) I fk fa hka nk na hk hlen h64 hstart ?_ rfl h
  intro i j hij hj
  have hj2:j<(if b=true then(keys.zip vs.toArray).reverse else keys.zip vs.toArray).size:=hj
  rw[hstart.size_eq,hzs]at hj2
  rw[List.size_toArray]at h2
  have:i=j:=by omega
  subst this
  exact Int.le_refl _
 ·rw[if_neg h2,if_neg h2]
  rw[List.size_toArray]at h2
  rw[ksk_kind hk (by rw[hsz];omega)]
  refine wpAny_bind (wpAny_pure ?_)
  refine wpAny_bind (wpAny_mono (wpS_sortRuns (a₀:=keys.zip vs.toArray) (st:=SortSt.mk' oneType' (if b=true then(keys.zip vs.toArray).reverse else keys.zip vs.toArray) #[] 7 none)
   (Q:=fun _ st'=>(arrOf st').Perm (keys.zip vs.toArray)/\failedOf st'=none/\SortedTo (arrOf st') (keys.zip vs.toArray).size)
   (ksk_intKeys hk) ⟨hstart,rfl,rfl,rfl⟩ (by rw[hzs];omega) (by rw[hzs];exact h64) fun st' a1 a2 a3=>⟨a1,a2,a3⟩) ?_ fun _ _ e=>e)
  rintro⟨⟨⟩,st'⟩ s' ⟨rfl,hp,hf,hs⟩
  try dsimp only
  exact ZbE I fk fa hka nk na hk hlen h64 hp (by rw[hp.size_eq];exact hs) hf h
def Zal(X:Cx)(pins:List (Addr×Obj))(σ:St)(H:Hp)(A:Around)(f v:Value)(k:Int):Prop:=
 ∀s' pl,Inv X (pins++pl) σ H s'->wpAny (model X.prog X.w) A (call f [v]) (fun u s''=>RelV (.int k) u/\Inv X (pins++pl) σ H s'') (fun _ _=>False) s'
theorem Ze6{f:Value}(I:Inv X pins σ H s)(fk:FpOk X pins H kS)(fa:FpOk X pins H a)(hka:kS≠a)(nk:s.heap.get? kS=some (seqObj "list" #[] 0))(na:s.heap.get? a=some (seqObj "list" #[] e1))
  (hlen:kz.length=vs.length)(h64:vs.length<64)
  (turn:∀(i:Nat)(v:Value)(k:Int),vs[i]?=some v->kz[i]?=some k->Zal X pins σ H A f v k)
  (h:∀s' out c,Inv X pins σ H s'->s'.heap.get? a=some (seqObj "list" out c)->KskOut b kz vs out.toList->P (.done (.ret .none)) s'):
  wpAny (model X.prog X.w) A (ksk_rest a f b vs.toArray e1 (.ref kS)) P E s:=by
 unfold ksk_rest
 refine wpAny_bind (wpAny_rule ?_)
 first
  |rw[List.forIn_toArray]
  |(rw[<-Array.forIn_toList];simp only[List.toList_toArray])
  |rw[<-Array.forIn_toList]
 refine wpAny_bind (ksk_fold (fun i s'=>∃kA e,Inv X pins σ H s'/\s'.heap.get? kS=some (seqObj "list" kA e)/\s'.heap.get? a=some (seqObj "list" #[] e1)/\IntsAre kA.toList (kz.take i)) vs 0 s
  ⟨#[],0,I,nk,na,by simpa using IntsAre.nil⟩ ?step ?done)
 case step=>
  rintro j x s' hx ⟨kA,e,I',nk',na',hk⟩
  simp only[Nat.zero_add]at hk⊢
  have hj:j<vs.length:=(List.getElem?_eq_some_iff.mp hx).1
  obtain⟨k,hkj⟩:∃k,kz[j]?=some k:=⟨_,List.getElem?_eq_getElem (by omega)⟩
  have hz:kA.size<=vs.length:=by
   have h1:=hk.length
   rw[Array.length_toList,List.length_take]at h1
   omega
  have Ip:Inv X (pins++[(kS,seqObj "list" kA e),(a,seqObj "list" #[] e1)]) σ H s':=I'.pins_of fun p hp=>by
   rcases List.mem_append.mp hp with z|z
   ·exact I'.pin p (List.mem_append_right _ z)
   ·rcases List.mem_cons.mp z with z|z
    ·rw[z];exact fk.pin1 I' nk' fun v z=>nomatch z
    ·rw[List.mem_singleton.mp z];exact fa.pin1 I' na' fun v z=>nomatch z
  refine wpAny_bind (wpAny_attempt (wpAny_mono (turn j x k hx hkj s' _ Ip) (fun v s'' he=>?_) fun _ _ hF=>hF.elim))
  obtain⟨⟨t2,rfl⟩,I2⟩:=he
  try dsimp only
  have nk2:s''.heap.get? kS=some (seqObj "list" kA e):=(I2.pin (kS,seqObj "list" kA e) (List.mem_append_right _ (List.mem_append_right _ (.head _)))).1
  have na2:s''.heap.get? a=some (seqObj "list" #[] e1):=(I2.pin (a,seqObj "list" #[] e1) (List.mem_append_right _ (List.mem_append_right _ (.tail _ (.head _))))).1
  have s1:=Heap.SameBut.update s''.heap kS (Obj.mapSeq (·.push (.int k t2)))
  obtain⟨c2,hc2⟩:∃c2,(s''.heap.update kS (Obj.mapSeq (·.push (.int k t2)))).get? kS=some (seqObj "list" (kA.push (.int k t2)) c2):=⟨_,get?_update_seq nk2 (·.push (.int k t2))⟩
  have ek:kz.take (j+1)=kz.take j++[k]:=by rw[List.take_add_one,hkj];simp
  have ea:(kA.push (Value.int k t2)).toList=kA.toList++[Value.int k t2]:=by simp
  refine wpAny_bind (listUpdate_at nk2 rfl ?_ (by rw[sizeLine_eq];omega) (Nat.le_trans (Nat.le_of_eq (Array.size_push ..)) (by rw[sizeLine_eq];omega)))
  exact wpAny_pure ⟨rfl,kA.push (.int k t2),c2,I2.unpinned.own1 fk s1,hc2,(s1.2 a hka.symm).trans na2,by rw[ea,ek];exact ksk_snoc hk⟩
 case done=>
  rintro s' ⟨kA,e,I',nk',na',hk⟩
  have hk':IntsAre kA.toList kz:=by
   have e3:kz.take (0+vs.length)=kz:=List.take_of_length_le (by omega)
   rw[e3]at hk
   exact hk
  try dsimp only
  refine wpAny_bind (listItems_at nk' rfl ?_)
  exact Zfo I' fk fa hka nk' na' hk' hlen h64 h
theorem Ze5{f:Value}{n:Nat}(I:Inv X pins σ H s)(fa:FpOk X pins H a)(ho:s.heap.get? a=some (seqObj "list" vs.toArray n))
  (hlen:kz.length=vs.length)(h64:vs.length<64)
  (turn:∀(i:Nat)(v:Value)(k:Int),vs[i]?=some v->kz[i]?=some k->Zal X pins σ H A f v k)
  (h:∀s' out c,Inv X pins σ H s'->s'.heap.get? a=some (seqObj "list" out c)->KskOut b kz vs out.toList->P (.done (.ret .none)) s'):
  wpAny (model X.prog X.w) A (ksk_tree a f b) P E s:=by
 have ha:a<s.heap.objs.size:=Heap.lt_size ho
 have s1:=Heap.SameBut.update s.heap a (Obj.mapSeq fun _=>(#[]:Array Value))
 obtain⟨e1,ho1⟩:∃e1,(s.heap.update a (Obj.mapSeq fun _=>(#[]:Array Value))).get? a=some (seqObj "list" #[] e1):=⟨_,get?_update_seq ho fun _=>#[]⟩
 have I1:=I.own1 fa s1
 have hkS:((s.heap.update a (Obj.mapSeq fun _=>(#[]:Array Value))).push (seqObj "tuple" vs.toArray 0)).objs.size=s.heap.objs.size+1:=by rw[size_push',Heap.size_update]
 have I3:Inv X pins σ H {s with heap:=((s.heap.update a (Obj.mapSeq fun _=>(#[]:Array Value))).push (seqObj "tuple" vs.toArray 0)).push (seqObj "list" #[] 0)}:=
  I1.kept (t':=s.toks) fun c o q=>Heap.get?_push_of_some _ (Heap.get?_push_of_some _ q)
 have fk:FpOk X pins H ((s.heap.update a (Obj.mapSeq fun _=>(#[]:Array Value))).push (seqObj "tuple" vs.toArray 0)).objs.size:=by
  rw[hkS]
  exact I.fpOk (Nat.le_succ _) (I.hok.fresh (Nat.le_succ _))
 unfold ksk_tree
 refine wpAny_bind (listItems_at ho rfl ?_)
 refine wpAny_bind (listUpdate_at ho rfl ?_ (by rw[List.size_toArray,sizeLine_eq];omega) (Nat.zero_le _))
 refine wpAny_bind (seqEpoch_at ho1 rfl ?_)
 refine wpAny_bind (wpAny_newTuple ?_ (by show vs.length<=_;rw[sizeLine_eq];omega))
 refine wpAny_bind (wpAny_newList ?_ (Nat.zero_le _))
 refine wpAny_holding ?_
 exact Ze6 (s:={s with heap:=((s.heap.update a (Obj.mapSeq fun _=>(#[]:Array Value))).push (seqObj "tuple" vs.toArray 0)).push (seqObj "list" #[] 0)}) (kS:=((s.heap.update a (Obj.mapSeq fun _=>(#[]:Array Value))).push (seqObj "tuple" vs.toArray 0)).objs.size)
  I3 fk fa (by rw[hkS];exact Nat.ne_of_gt (Nat.lt_succ_of_lt ha)) (Heap.get?_push_size _ rfl) (Heap.get?_push_of_some _ (Heap.get?_push_of_some _ ho1)) hlen h64 turn h
end
section
variable{X:Cx}{pins:List (Addr×Obj)}{σ:St}{H:Hp}{s:Shared}{E:Value->Shared->Prop}
theorem Zdr{l f:Addr}{ns:List Int}{g:Int->Int}{Q:Value->Shared->Prop}(I:Inv X pins σ H s)(hl:SqL X.K H l (ns.map V.int))(h64:ns.length<64)
  (turn:∀(n:Int)(t:Tok),n∈ns->Zal X pins σ H X.A.in1.in1 (.ref f) (.int n t) (g n))
  (done:∀(D:Addr)(ns':List Int)(s':Shared),H D=none->ns'.Perm ns->ns'.Pairwise (fun x y=>g x<=g y)->Inv X pins σ (upd H D (.lst (ns'.map V.int))) s'->Q (.ref D) s'):
  wpAny (model X.prog X.w) X.A (call (.builtin "sorted") [.ref l] [(Str.ofString "key",.ref f)]) Q E s:=by
 obtain⟨vs,rvs,pl,_⟩:=I.list hl
 have hi:IntsAre vs ns:=intsAre_of rvs
 have hlen:=hi.length
 have hlz:(ns.map g).length=vs.length:=by rw[List.length_map,hlen]
 refine call_function_entry_kw kind_sorted plain_sorted entry_sorted (ksk_s1 _ _) ?_
 unfold Builtin.«sorted»
 refine wpAny_bind (m:=checkCount "sorted" 1 1 _) (wpAny_pure ?_)
 refine wpAny_bind (collect_list pl.isList ?_ (by rw[sizeLine_eq];omega))
 refine wpAny_bind (wpAny_newList ?_ (by rw[sizeLine_eq];omega))
 have hsz:((s.heap.push (seqObj "list" #[] 0)).update s.heap.objs.size (Obj.mapSeq (·++vs.toArray))).objs.size=s.heap.objs.size+1:=by
  rw[Heap.size_update,size_push']
 have hoL:(((s.heap.push (seqObj "list" #[] 0)).update s.heap.objs.size (Obj.mapSeq (·++vs.toArray))).push (seqObj "list" vs.toArray 0)).get? (s.heap.objs.size+1)=some (seqObj "list" vs.toArray 0):=by
  rw[<-hsz];exact Heap.get?_push_size _ rfl
 have keep:∀b o,s.heap.get? b=some o->(((s.heap.push (seqObj "list" #[] 0)).update s.heap.objs.size (Obj.mapSeq (·++vs.toArray))).push (seqObj "list" vs.toArray 0)).get? b=some o:=fun b o q=>by
  have hlt:b<s.heap.objs.size:=Heap.lt_size q
  rw[Heap.get?_push_ne _ _ _ (by rw[hsz];exact Nat.ne_of_lt (Nat.lt_succ_of_lt hlt)),Heap.get?_update_ne _ _ _ _ (Nat.ne_of_lt hlt),Heap.get?_push_ne _ _ _ (Nat.ne_of_lt hlt)]
  exact q
 have I1:Inv X pins σ H {s with heap:=((s.heap.push (seqObj "list" #[] 0)).update s.heap.objs.size (Obj.mapSeq (·++vs.toArray))).push (seqObj "list" vs.toArray 0)}:=I.kept (t':=s.toks) keep
 have hD:H (s.heap.objs.size+1)=none:=I.hok.fresh (Nat.le_succ _)
 have fa:FpOk X pins H (s.heap.objs.size+1):=I.fpOk (Nat.le_succ _) hD
 show wpAny _ _ _ _ _ {s with heap:=((s.heap.push (seqObj "list" #[] 0)).update s.heap.objs.size (Obj.mapSeq (·++vs.toArray))).push (seqObj "list" vs.toArray 0)}
 rw[hsz]
 refine wpAny_bind (wpAny_holding (wpAny_call_entry_kw slot_list_sort ⟨_,hoL,rfl⟩ entry_list_sort ?body (ksk_l1 _ _)))
 case body=>
  show wpAny (model X.prog X.w) X.A.in1.in1 (Builtin.«list.sort» ⟨[.ref (s.heap.objs.size+1)],[(Str.ofString "key",.ref f)]⟩) _ _ _
  rw[ksk_t1]
  refine Ze5 (s:={s with heap:=((s.heap.push (seqObj "list" #[] 0)).update s.heap.objs.size (Obj.mapSeq (·++vs.toArray))).push (seqObj "list" vs.toArray 0)}) (kz:=ns.map g) I1 fa hoL hlz (by omega) (fun i v k hv hk=>?_) fun s' out c I' ho' ko=>⟨_,rfl,?_⟩
  ·rw[List.getElem?_map]at hk
   cases q:ns[i]? with
   |none=>rw[q]at hk;simp at hk
   |some n=>
    rw[q]at hk
    have hk':some (g n)=some k:=hk
    cases hk'
    obtain⟨t,ht'⟩:=hi.get i n q
    rw[ht']at hv
    cases hv
    exact turn n t (List.mem_of_getElem? q)
  ·obtain⟨ps,hp,ho,hs⟩:=ko
   have hrel:∀p,p∈(ns.map g).zip vs->p.1=g (numOf p.2)/\p.2∈vs:=by
    rw[<-hi.nums,List.map_map,List.zip_map_left]
    intro p hp
    obtain⟨⟨u,v⟩,hq,rfl⟩:=List.mem_map.mp hp
    have h1:u=v/\u∈vs:=mem_zip_self hq
    refine⟨?_,?_⟩
    ·show g (numOf u)=g (numOf v)
     rw[h1.1]
    ·show v∈vs
     rw[<-h1.1]
     exact h1.2
   have hI:IntsAre (ps.map Prod.snd) ((ps.map Prod.snd).map numOf):=intsAre_map _ fun v hv=>by
    obtain⟨p,hp',rfl⟩:=List.mem_map.mp hv
    exact hi.all _ (hrel p (hp.mem_iff.mp hp')).2
   have hP:((ps.map Prod.snd).map numOf).Perm ns:=by
    have h1:=(hp.map Prod.snd).map numOf
    rw[List.map_snd_zip (by rw[List.length_map];omega),hi.nums]at h1
    exact h1
   have hO:((ps.map Prod.snd).map numOf).Pairwise (fun x y=>g x<=g y):=by
    rw[List.pairwise_map,List.pairwise_map]
    refine hs.imp_of_mem fun{p q} hp' hq' hr=>?_
    have hr':p.1<=q.1:=hr
    rw[(hrel p (hp.mem_iff.mp hp')).1,(hrel q (hp.mem_iff.mp hq')).1]at hr'
    exact hr'
   rw[<-ho]at hI hP hO
   have hl2:(out.toList.map numOf).length<=sizeLine:=by
    rw[hP.length_eq,sizeLine_eq];omega
   refine wpAny_pure ⟨_,rfl,done _ _ s' hD hP hO (I'.track fa (Nat.le_trans I.sz (Nat.le_succ _)) ?_)⟩
   refine⟨by rw[List.length_map];exact hl2,out.toList,c,Zam hI,?_⟩
   rw[Array.toArray_toList]
   exact ho'
end
theorem ZbT{X:Cx}{scope:Scope}{cl:List (Str×Addr)}{fr:List Str}{bs:List (Option Nat)}{pins:List (Addr×Obj)}{σ:St}{H:Hp}{s:Shared}{fv:List V}(B:Blk X scope cl fr bs)(I:Inv X pins σ H s)(hfv:bst bs σ=fv.map some):Zgt cl H s.heap fr fv:=by
 refine⟨?_,fun i y v e1 e2=>?_⟩
 ·have h:=congrArg List.length hfv
  unfold bst at h
  rw[List.length_map,List.length_map,B.bs.len]at h
  exact h
 ·have e3:(bst bs σ)[i]?=some (some v):=by rw[hfv,List.getElem?_map,e2];rfl
  unfold bst at e3
  rw[List.getElem?_map]at e3
  cases q:bs[i]? with
  |none=>rw[q]at e3;cases e3
  |some o=>
   rw[q]at e3
   cases o with
   |none=>cases e3
   |some j=>
    obtain⟨x,y1,y2,y3,y4⟩:=B.bs.get q
    rw[e1]at y1
    cases y1
    have e4:σ[j]?=some (some v):=by
     have z:(σ[j]?).join=some v:=Option.some.inj e3
     cases w:σ[j]? with
     |none=>rw[w]at z;cases z
     |some o=>rw[w]at z;rw[show o=some v from z]
    obtain⟨mx,hmx,lx⟩:=I.loc
    obtain⟨u,r,l⟩:=lx j y v y2 e4 (.inr (.inl y3))
    rcases l with⟨l1,_⟩|⟨_,c,l2,l3⟩
    ·have l1':X.env.scope.names.lookup y=some .local:=l1
     rw[y3]at l1'
     cases l1'
    ·obtain⟨c',h'⟩:=Option.isSome_iff_exists.mp (B.cl2 (y,.free) (PySem.mem_of_lookup y4) rfl)
     have h2:=B.c1 h'
     rw[l2]at h2
     cases h2
     exact⟨u,c,r,h',l3⟩
def Zfk(K:PySem.W.Frag)(P:Addr)(lpos:Pos)(qual:Str)(bs:List (Option Nat))(ta te:TE):TE:=fun σ H Q=>ta σ H fun x H1=>∃(l:Addr)(ns:List Int)(g:Int->Int)(fv:List V),x= .ref l/\SqL K H1 l (ns.map V.int)/\ns.length<64/\TabI P lpos qual H1/\bst bs σ=fv.map some/\
 ∀H2,Gr P lpos qual H1 H2->(∀n∈ns,te (some (.int n)::fv.map some) H2 fun v H3=>v= .int (g n)/\H3=H2)/\∀D ns',H2 D=none->List.Perm ns' ns->ns'.Pairwise (fun x y=>g x<=g y)->Q (.ref D) (upd H2 D (.lst (ns'.map V.int)))
theorem Gr.sqL{K:PySem.W.Frag}{P:Addr}{pos:Pos}{qual:Str}{H H':Hp}{l:Addr}{xs:List V}(g:Gr P pos qual H H')(t:TabI P pos qual H)(h:SqL K H l xs):SqL K H' l xs:=by
 have np:∀o,H l=some o->(∀ps,o≠.tbl ps)->l≠P:=fun o e n z=>by
  subst z
  rcases t with t|⟨c',t,_⟩
  ·rw[e]at t;exact n _ (Option.some.inj t)
  ·rw[e]at t;exact n _ (Option.some.inj t)
 rcases h with(h|⟨o,h⟩)|h
 ·exact .inl (.inl (g.keep _ _ h (np _ h fun ps z=>nomatch z)))
 ·exact .inl (.inr ⟨o,g.keep _ _ h (np _ h fun ps z=>nomatch z)⟩)
 ·exact .inr h
def Zea(R:V->Hp->Prop):List V->Hp->Prop
 |[x],H=>R x H
 |_,_=>False
theorem Zbe{R:V->Hp->Prop}:∀{vs:List V}{H:Hp},Zea R vs H->∃x,vs=[x]/\R x H
 |[x],_,h=>⟨x,rfl,h⟩
 |[],_,h=>h.elim
 |_::_::_,_,h=>h.elim
theorem Zd2{X:Cx}{k:Nat}{scope:Scope}{cl:List (Str×Addr)}{fr:List Str}{bs:List (Option Nat)}{x:Str}{params:Arguments}{body arg:Expr}{c P:Addr}{qual:Str}{lpos kpos pos p:Pos}{ta te:TE}
  (B:Blk X scope cl fr bs)(L:Lam x fr params scope)(hbm:BM X.mg X.base)(hcode:X.env.code= .ref c)(hC:PySem.W.codeHdIn X.K c P=true)(hq0:X.env.qual++"<lambda>"=qual)(hdef:defaultsOf params X.env=([],[]))
  (hr:Room (k+3) X.A)(hg:Gl X "sorted")(hm:X.mg "sorted"=none)(ha:PE X arg ta)
  (hbody:∀(f c':Addr)(A:Around)(s:Shared)(H:Hp),Room k (A.deeper (PySem.W.envX qual scope s.heap.objs.size f (.ref c') cl))->PE (Zda X.prog X.w X.K X.mg X.base (x::fr) qual scope cl f c' A X.stack s H) body te)
  (hs:starEach [arg] X.env=[(false,eval arg X.env)]:=by rfl):
  PE X (.Call (.Name "sorted" p) [arg] [⟨some "key",.Lambda params body scope lpos,kpos⟩] pos) (Zfk X.K P lpos qual bs ta te):=by
 intro pins s σ H Q I h
 refine wpAny_Call_Name_kw (Jh I hg hm boot_sorted ?_)
 refine callWith_kw (id:="sorted") (thn ((ZaH ha Za hs:PA X [arg] (YS ta tNil)) pos pins s σ H (Zea fun x H1=>∃(l:Addr)(ns:List Int)(g:Int->Int)(fv:List V),x= .ref l/\SqL X.K H1 l (ns.map V.int)/\ns.length<64/\TabI P lpos qual H1/\bst bs σ=fv.map some/\
  ∀H2,Gr P lpos qual H1 H2->(∀n∈ns,te (some (.int n)::fv.map some) H2 fun v H3=>v= .int (g n)/\H3=H2)/\∀D ns',H2 D=none->List.Perm ns' ns->ns'.Pairwise (fun x y=>g x<=g y)->Q (.ref D) (upd H2 D (.lst (ns'.map V.int)))) I h) fun us s1⟨vs,H1,I1,r1,q1⟩=>?_) (by rw[hs];rfl) (by rw[hs];rfl)
 obtain⟨x1,rfl,q1⟩:=Zbe q1
 obtain⟨u1,rfl,ru⟩:=vals1 r1
 obtain⟨l,ns,g,fv,rfl,hl,h64,htab,hfv,q⟩:=q1
 cases ru
 show wpAny _ _ (evalAll [(do let v<-eval (.Lambda params body scope lpos) X.env;standAt pos;pure v)]) _ _ s1
 refine wpAny_evalAll_cons (wpAny_bind (ZcP I1 hbm B.clos hcode hC hq0 hdef htab fun f c' pm ctv s2 H2 I2 gr hf hfs hfn hc=>wpAny_bind (wpAny_standAt (wpAny_pure (wpAny_evalAll_nil ?_)))))
 show wpAny _ _ (call (.builtin "sorted") [.ref l] [(Str.ofString "key",.ref f)]) _ _ s2
 obtain⟨qk,qd⟩:=q H2 gr
 have ff:FpOk X pins H2 f:=I1.fpOk hfs hfn
 have I2':Inv X (pins++[(f,PySem.W.kla_obj "<lambda>" qual params body scope cl pm c' ctv)]) σ H2 s2:=I2.pins_of fun p hp=>by
  rcases List.mem_append.mp hp with z|z
  ·exact I2.pin p (List.mem_append_right _ z)
  ·rw[List.mem_singleton.mp z]
   exact ff.pin1 I2 hf fun v z=>nomatch z
 refine Zdr (g:=g) I2' (gr.sqL htab hl) h64 (fun n t hn s' pl I'=>?_) fun D ns' s' hD hP hO I'=>⟨.ref D,_,I'.unpinned,rfl,qd D ns' hD hP hO⟩
 have pf:=I'.pin (f,PySem.W.kla_obj "<lambda>" qual params body scope cl pm c' ctv) (List.mem_append_right _ (List.mem_append_left _ (List.mem_append_right _ (.head _))))
 have hcd:s'.heap.CodeRec (.ref c') qual:=(show ObjOk X.prog X.w H2 s'.heap c' (Zfe qual c')from I'.hok c' _ hc).1
 have hr1:Room (k+1) X.A.in1.in1:=(hr.in1).in1
 refine wpAny_call (codeAny_mono (Zeg (v:= .int n) L hr1 (I'.env0.in1).in1 pf.1 hcd (fun y z c h1 h2=>I'.ok.inj y z c (B.c1 h1) (B.c1 h2)) B.cl2 (fun y c h=>⟨I'.cell y c (B.c1 h),I'.freeC y c (B.c1 h)⟩) (ZbT B I' hfv) ⟨t,rfl⟩ (hbody f c' _ s' H2 (hr1.deeper _)) (qk n hn)) fun r s'' hq=>?_)
 cases r with
 |error e=>exact hq.elim
 |ok fl=>
  cases fl with
  |next=>exact False.elim hq
  |brk=>exact False.elim hq
  |cont=>exact False.elim hq
  |ret u=>
   obtain⟨v',H',J,r',rfl,rfl⟩:=I'.after hq
   exact⟨r',J⟩
section
variable{X:Cx}
theorem ZL:CallR X (.builtin "isinstance") (fun xs H Q=>∃x n t b,xs=[x,.ty n]/\JQ X.K H x t/\PySem.W.kitOne X.K t (.type n)=some b/\Q (.bl b) H):=by
 intro pins s σ H xs us Q I r h
 obtain⟨x,n,t,b,rfl,ty,e,q⟩:=h
 obtain⟨u,w',rfl,rx,ry⟩:=vals2 r
 cases(show w'=Value.type n from ry)
 exact ZeM I rx ty e fun tk=>⟨.bl b,H,I.tok tk,rfl,q⟩
theorem Inv.big{pins:List (Addr×Obj)}{σ:St}{H:Hp}{s:Shared}(I:Inv X pins σ H s):sysModules<s.heap.objs.size:=by
 have h:mainGlobals<s.heap.objs.size:=(I.mod.glob.keeps I.bk).lt
 exact Nat.lt_trans (by decide) h
theorem Zgh{P:Program}{w:World}{H:Hp}(h:Heap)(hb:sysModules<h.objs.size):ObjOk P w H (h.push {cls:= .type "dict",data:= .dict #[]}) h.objs.size (.dK []):=
 ⟨Nat.zero_le _,beq_eq_false_iff_ne.mpr (Ne.symm (Nat.ne_of_lt hb)),[],.nil,Heap.DictOf.new h⟩
def tDNewK:TE:=fun _ H Q=>∀p,H p=none->Q (.ref p) (upd H p (.dK []))
theorem Zf4{pos:Pos}:PE X (.Dict [] [] pos) tDNewK:=fun pins s σ H Q I h=>
 wpAny_Dict_empty ⟨.ref s.heap.objs.size,_,I.laid (a:=s.heap.objs.size) (o:= .dK []) (t':=s.toks) (fun _ _ q=>Heap.get?_push_of_some _ q) (Nat.le_refl _) (Zgh s.heap I.big),rfl,h _ (I.hok.fresh (Nat.le_refl _))⟩
def Zig(K:PySem.W.Frag):R2:=fun x y H Q=>∃a b ys,x= .ref a/\y= .ref b/\SqT K H a []/\SqT K H b ys/\Q (.ref b) H
theorem ZfE:OpR X (binaryOp .Add) (Zig X.K):=by
 intro pins s σ H x y v u Q I rx ry h
 obtain⟨a,b,ys,rfl,rfl,ha,hb,q⟩:=h
 cases rx
 cases ry
 obtain⟨its,r1,p1,_⟩:=I.tuple ha
 obtain⟨its2,r2,p2,_⟩:=I.tuple hb
 have e0:its=[]:=r1.nil_iff.mpr rfl
 subst e0
 obtain⟨⟨cls,dd,data,sl⟩,ho,hc,n,hd⟩:=id p1
 obtain⟨⟨cls2,dd2,data2,sl2⟩,ho2,hc2,n2,hd2⟩:=id p2
 simp only at hc hd hc2 hd2
 subst hc hd hc2 hd2
 exact concat_meets ⟨_,ho,rfl⟩ ⟨_,ho2,rfl⟩ noFill_tuple_add seq_tuple_add PySem.F.slot_tuple_add PySem.F.entry_tuple_add (PySem.F.args_tuple_add_2 _ _)
   (tuple_addW0 a b _ its2.toArray n n2 dd dd2 sl sl2 (by simp)) ⟨ho,ho2,⟨.ref b,H,I,rfl,q⟩⟩
theorem Za4:∀{xs:List V}{us:List Value},xs.length=us.length->(∀(i:Nat) x u,xs[i]?=some x->us[i]?=some u->RelV x u)->Vals xs us
 |[],[],_,_=> .nil
 |[],_::_,h,_=>by simp at h
 |_::_,[],h,_=>by simp at h
 |x::xs,u::us,h,k=> .cons (k 0 x u rfl rfl) (Za4 (by simpa using h) fun i y w e1 e2=>k (i+1) y w (by simpa using e1) (by simpa using e2))
theorem Zgl:CallR X (.type "range") (fun xs H Q=>∃j,xs=[.int j]/\∀p,H p=none->Q (.ref p) (upd H p (.rng 0 j))):=by
 intro pins s σ H xs us Q I r h
 obtain⟨j,rfl,q⟩:=h
 obtain⟨u,rfl,rx⟩:=vals1 r
 obtain⟨t,rfl⟩:=rx
 refine call_range_1 ?_
 exact⟨.ref s.heap.objs.size,_,I.laid (a:=s.heap.objs.size) (o:= .rng 0 j) (fun _ _ q=>Heap.get?_push_of_some _ q) (Nat.le_refl _) ⟨_,_,_,Heap.get?_push_size _ rfl⟩,rfl,q _ (I.hok.fresh (Nat.le_refl _))⟩
def Js(n:Nat):List Int:=(List.range n).map fun i:Nat=>(i:Int)
theorem Zcz(hc:X.calm=true):CallR X (.type "list") (fun xs H Q=>∃p,∃n:Nat,xs=[.ref p]/\H p=some (.rng 0 n)/\n<=1000000/\∀l,H l=none->Q (.ref l) (upd H l (.lst ((Js n).map V.int)))):=by
 intro pins s σ H xs us Q I r h
 obtain⟨p,n,rfl,hp,hn,q⟩:=h
 obtain⟨u,rfl,rx⟩:=vals1 r
 cases(show u=Value.ref p from rx)
 obtain⟨t,t2,t3,e⟩:=(show ObjOk X.prog X.w H s.heap p (.rng 0 n)from I.hok p _ hp)
 refine call_list_range (r:=p) (a:=0) (b:=n) (c:=1) (n:=n) (I.ok.hd hc) e (small_one (by omega) (by omega) (by omega) (by omega)) (by rw[rangeSize_one];split<;>omega) (by omega) fun h' tk acc' c' kp e2 it=>?_
 obtain⟨i1,i2⟩:=it
 have hv:Vals ((Js n).map V.int) acc'.toList:=Za4 (by simp[Js,i1]) fun i x u e3 e4=>by
  have e5:acc'[i]?=some u:=by simpa using e4
  obtain⟨t',rfl⟩:=i2 i u e5
  simp only[Js,List.map_map,List.getElem?_map]at e3
  cases q2:(List.range n)[i]? with
  |none=>rw[q2]at e3;cases e3
  |some j=>
   rw[q2]at e3
   have hj:j=i:=by
    have:=List.getElem?_eq_some_iff.mp q2
    obtain⟨_,w⟩:=this
    rw[List.getElem_range]at w
    exact w.symm
   subst hj
   cases e3
   exact⟨t',by simp⟩
 have lz:((Js n).map V.int).length<=sizeLine:=by
  simp only[Js,List.length_map,List.length_range]
  rw[sizeLine_eq];omega
 refine⟨.ref s.heap.objs.size,_,I.laid (t':=tk) kp (Nat.le_refl _) (show ObjOk X.prog X.w _ h' _ (.lst ((Js n).map V.int))from⟨lz,acc'.toList,c',hv,by rw[e2]⟩),rfl,q _ (I.hok.fresh (Nat.le_refl _))⟩
theorem ZbU(hc:X.calm=true):CallR X (.builtin "max") (fun xs H Q=>∃p,∃ns:List Int,xs=[.ref p]/\(SqL X.K H p (ns.map V.int)\/SqT X.K H p (ns.map V.int))/\0<ns.length/\∀M,M∈ns->(∀a∈ns,a<=M)->Q (.int M) H):=by
 intro pins s σ H xs us Q I r h
 obtain⟨p,ns,rfl,hp,hne,q⟩:=h
 obtain⟨u,rfl,rx⟩:=vals1 r
 cases(show u=Value.ref p from rx)
 have fin:∀(vs:List Value)(it:Obj),Vals (ns.map V.int) vs->(∀i v,vs.toArray[i]?=some v->∃t,v=Value.int (ns.getD i 0) t)->∀v h' tk,vs.toArray[argBest (fun i j=>decide (ns.getD i 0>ns.getD j 0)) (vs.toArray.size-1)]?=some v->
   (∀b o,b ∉ [s.heap.objs.size]->(s.heap.push it).get? b=some o->h'.get? b=some o)->EP X pins σ Q v {s with heap:=h',toks:=tk}:=by
  intro vs it rv hval v h' tk hP hk
  obtain⟨t,rfl⟩:=hval _ _ hP
  have hlen:vs.length=ns.length:=by have:=rv.length;simpa using this.symm
  obtain⟨h1,h2⟩:=argBest_gt (fun i=>ns.getD i 0) (vs.toArray.size-1)
  rw[List.size_toArray,hlen]at h1 h2
  rw[List.size_toArray,hlen]
  refine⟨.int _,H,I.kept (t':=tk) fun b o e2=>hk b o (fun hm=>?_) (Heap.get?_push_of_some _ e2),⟨t,rfl⟩,q _ ?_ fun a ha=>?_⟩
  ·rw[List.mem_singleton.mp hm]at e2
   exact Nat.lt_irrefl _ (Heap.lt_size e2)
  ·have hlt:argBest (fun i j=>decide (ns.getD i 0>ns.getD j 0)) (ns.length-1)<ns.length:=by omega
   rw[List.getD_eq_getElem?_getD,List.getElem?_eq_getElem hlt]
   exact List.getElem_mem hlt
  ·obtain⟨j,hj,rfl⟩:=List.getElem_of_mem ha
   have:=h2 j (by omega)
   rw[List.getD_eq_getElem?_getD,List.getElem?_eq_getElem hj]at this
   exact this
 have hvals:∀vs:List Value,Vals (ns.map V.int) vs->∀i v,vs.toArray[i]?=some v->∃t,v=Value.int (ns.getD i 0) t:=by
  intro vs rv i v e
  have e':vs[i]?=some v:=by simpa using e
  have hlen:vs.length=ns.length:=by have:=rv.length;simpa using this.symm
  have hi:i<ns.length:=by rw[<-hlen];exact(List.getElem?_eq_some_iff.mp e').1
  obtain⟨u,e2,r2⟩:=rv.get (i:=i) (x:= .int ns[i]) (by rw[List.getElem?_map,List.getElem?_eq_getElem hi];rfl)
  rw[e']at e2
  cases e2
  obtain⟨t,rfl⟩:=r2
  exact⟨t,by rw[List.getD_eq_getElem?_getD,List.getElem?_eq_getElem hi];rfl⟩
 have pos:∀vs:List Value,Vals (ns.map V.int) vs->0<vs.toArray.size:=fun vs rv=>by
  have:=rv.length
  rw[List.length_map]at this
  rw[List.size_toArray];omega
 rcases hp with hp|hp
 ·obtain⟨vs,rv,pl,hz⟩:=I.list hp
  have hl:=pl.isList
  have hlt:p<s.heap.objs.size:=by obtain⟨_,e,_⟩:=hl;exact Heap.lt_size e
  refine call_max_walk (wpAny_pyIter_list hl ?_)
  refine⟨s.heap.objs.size,[s.heap.objs.size,p],[s.heap.objs.size],_,_,_,_,rfl,Walks.list (A:=X.A.in1) (I.ok.hd hc) _ p (Nat.ne_of_lt hlt) vs.toArray,⟨⟨_,Heap.get?_push_size _ rfl,rfl,rfl⟩,hl.push _⟩,fun b hb=>?_,pos vs rv,CmpOf.ints_gt (fun i=>ns.getD i 0) (hvals vs rv),fun v h' tk hP hk=>fin vs _ rv (hvals vs rv) v h' tk hP hk⟩
  show b<(s.heap.push _).objs.size
  rw[Heap.size_push]
  simp only[List.mem_cons,List.not_mem_nil,or_false]at hb
  rcases hb with rfl|rfl
  ·exact Nat.lt_succ_self _
  ·exact Nat.lt_succ_of_lt hlt
 ·obtain⟨vs,rv,pl,hz⟩:=I.tuple hp
  have hl:s.heap.IsTuple p vs.toArray:=pl
  have hlt:p<s.heap.objs.size:=by obtain⟨_,e,_⟩:=hl;exact Heap.lt_size e
  refine call_max_walk (wpAny_pyIter_tuple hl ?_)
  refine⟨s.heap.objs.size,[s.heap.objs.size,p],[s.heap.objs.size],_,_,_,_,rfl,Walks.tuple (A:=X.A.in1) (I.ok.hd hc) _ p (Nat.ne_of_lt hlt) vs.toArray,⟨⟨_,Heap.get?_push_size _ rfl,rfl,rfl⟩,hl.push _⟩,fun b hb=>?_,pos vs rv,CmpOf.ints_gt (fun i=>ns.getD i 0) (hvals vs rv),fun v h' tk hP hk=>fin vs _ rv (hvals vs rv) v h' tk hP hk⟩
  show b<(s.heap.push _).objs.size
  rw[Heap.size_push]
  simp only[List.mem_cons,List.not_mem_nil,or_false]at hb
  rcases hb with rfl|rfl
  ·exact Nat.lt_succ_self _
  ·exact Nat.lt_succ_of_lt hlt
theorem Y2:fillsNumberSlot (.type "tuple") "mul"=pure false:=
 PySem.fillsNumberSlot_seq (id:="tuple.__mul__") (r:=some (.builtin "tuple.__rmul__")) F.slot_tuple_mul.lookup (by decide+kernel) F.slot_tuple_rmul.lookup (by decide+kernel)
theorem YZ:seqRepeat? (.type "tuple")=pure (some (.builtin "tuple.__mul__")):=by
 unfold seqRepeat?
 rw[PySem.seqSlot_of (T:="tuple") (name:="__mul__") (id:="tuple.__mul__") F.slot_tuple_mul.lookup (by decide+kernel),PySem.seqSlot_of (T:="tuple") (name:="__rmul__") (id:="tuple.__rmul__") F.slot_tuple_rmul.lookup (by decide+kernel)]
 rfl
theorem YJ(a:Int)(t:Tok)(l:Addr)(items:Array Value)(n:Nat)(dd:Option Addr)(sl:Array (Option Value)):
  Meets (Builtin.«int.__rmul__» ⟨[.int a t,.ref l],[]⟩) (fun _ R s=>s.heap.get? l=some {cls:= .type "tuple",dict:=dd,data:= .seq items n,slots:=sl}/\R (.ok (.ret Value.notImplemented)) s):=
 .of_wp fun prog w A R s h=>by obtain⟨hp,g,d,tk,os⟩:=s;obtain⟨hl,h⟩:=h;wp_walk;exact⟨_,rfl,h⟩
theorem Zdj(l:Addr)(items:Array Value)(n:Nat)(dd:Option Addr)(sl:Array (Option Value))(x:Int)(u:Tok)(hc0:¬(decide (x< -(2^63))||decide (x≥2^63))=true)(hc1:¬(items.isEmpty||x==1)=true)(hc2:¬(decide (x<=0)||items.isEmpty)=true)
  (hc3:¬(items.size:Int)*x>(2^63-1)/8)(hc4:¬Builtin.Tuple.tupleTooMany ((items.size:Int)*x)=true)(hs0:(List.foldl (fun x1 x2=>x1++x2) #[] (List.replicate x.toNat items)).size<=sizeLine):
  Meets (Builtin.«tuple.__mul__» ⟨[.ref l,.int x u],[]⟩) (fun _ R s=>s.heap.get? l=some {cls:= .type "tuple",dict:=dd,data:= .seq items n,slots:=sl}/\R (.ok (.ret (Value.ref s.heap.objs.size))) {s with heap:=s.heap.push {cls:=Value.type "tuple",data:=Data.seq (List.foldl (fun x1 x2=>x1++x2) #[] (List.replicate x.toNat items))},toks:=s.toks}):=
 .of_wp fun prog w A R s h=>by
  obtain⟨hp,g,d,tk,os⟩:=s;obtain⟨hl,h⟩:=h;have f1:=AutoSeq1.idx_int;have f2:=AutoSeq1.sub_tuple_tuple;have f3:=AutoSeq1.sub_list_list;have f4:=AutoSeq1.sub_tuple_list;have f5:=AutoSeq1.sub_list_tuple
  wp_walk using wpAny_loadPart' hl
  rw[if_neg hc0]
  wp_walk using wpAny_loadPart' hl
  rw[if_neg hc3]
  wp_walk using wpAny_loadPart' hl
  exact⟨_,rfl,h⟩
def Zjm(K:PySem.W.Frag):R2:=fun x y H Q=>∃l k xs,x= .ref l/\y= .int k/\SqT K H l xs/\1<k/\k<2^62/\xs≠[]/\xs.length*k.toNat<=sizeLine/\∀p,H p=none->Q (.ref p) (upd H p (.tup (List.replicate k.toNat xs).flatten))
theorem op_repT:OpR X (binaryOp .Mult) (Zjm X.K):=by
 intro pins s σ H x y v u Q I rx ry h
 obtain⟨l,k,xs,rfl,rfl,hS,h1,h2,hne,hz,q⟩:=h
 cases(show v=Value.ref l from rx)
 obtain⟨t,rfl⟩:=ry
 obtain⟨its,r,pl,_⟩:=I.tuple hS
 have hl:=r.length
 obtain⟨⟨cls,dd,data,sl⟩,ho,hc,n,hd⟩:=id pl
 simp only at hc hd
 subst hc hd
 have hsz:its.toArray.size*k.toNat<=sizeLine:=by rw[List.size_toArray,<-hl];exact hz
 have hne':its.toArray.isEmpty=false:=by
  cases its with
  |nil=>exact absurd (r.nil_iff.mp rfl) hne
  |cons a b=>rfl
 have hpos:0<its.toArray.size:=by
  cases its with
  |nil=>exact absurd (r.nil_iff.mp rfl) hne
  |cons a b=>simp
 have hnew:List.foldl (fun x1 x2=>x1++x2) #[] (List.replicate k.toNat its.toArray)=(List.replicate k.toNat its).flatten.toArray:=by
  have:=foldl_rep its k.toNat []
  rw[List.nil_append]at this
  exact this
 have hk:((its.toArray.size:Int))*k=((its.toArray.size*k.toNat:Nat):Int):=by
  rw[Int.natCast_mul]
  congr 1
  omega
 have hline:(sizeLine:Nat)<2^60:=by rw[sizeLine_eq];decide
 have lenR:(List.replicate k.toNat its).flatten.length<=sizeLine:=by rw[len_rep,Nat.mul_comm];simpa using hsz
 refine wpAny_binaryOp_repeat_ref (T:="tuple") (U:="int") (by decide) ⟨_,ho,rfl⟩ (fun s'=>typeIs_int s' k t) Y2 F.fills_int_mul F.slot_int_rmul YZ F.slot_int_index.lookup
  (call_meets F.slot_int_rmul (typeIs_int s k t) F.entry_int_rmul (F.args_int_rmul_2 _ _) (YJ k t l its.toArray n dd sl)
   ⟨ho,rfl,⟨_,ho,rfl⟩,call_meets F.slot_tuple_mul ⟨_,ho,rfl⟩ F.entry_tuple_mul (F.args_tuple_mul_2 _ _) (Zdj l its.toArray n dd sl k t ?c0 ?c1 ?c2 ?c3 ?c4 ?c5) ⟨ho,?_⟩⟩)
 case c0=>simp;omega
 case c1=>rw[hne'];simp;omega
 case c2=>rw[hne'];simp;omega
 case c3=>rw[hk];omega
 case c4=>rw[hk];exact fun z=>absurd (of_decide_eq_true z) (Int.not_lt.mpr (Int.ofNat_le.mpr hsz))
 case c5=>rw[hnew,List.size_toArray];exact lenR
 rw[hnew]
 refine⟨.ref _,_,I.laid (t':=s.toks) (o:= .tup (List.replicate k.toNat xs).flatten) (fun b ob q=>Heap.get?_push_of_some _ q) (Nat.le_refl _) ?_,rfl,q _ I.fresh⟩
 exact⟨by rw[len_rep,Nat.mul_comm];exact hz,_,r.rep k.toNat,IsTup.new _ _⟩
end
theorem ZI{H:Hp}{d:Addr}{o:HO}(h:H d=Option.none):Same H (upd H d o):=fun b u e=>by rw[Zg (Zz e h)];exact e
theorem Zbj{n:Nat}(h:Nat.ble n 1000=true):n<=sizeLine:=by
 have:=Nat.le_of_ble_eq_true h
 rw[sizeLine_eq];omega
theorem Yq{n:Nat}(h:n<=100000):n<=sizeLine:=by rw[sizeLine_eq];omega
def Yw:Expr->Bool
 | .Starred _ _=>false
 |_=>true
theorem Yt{e:Expr}{es:List Expr}{env:Env}(h:Yw e=true):starEach (e::es) env=(false,eval e env)::starEach es env:=by
 cases e<;>first|rfl|cases h
theorem ZaS{env:Env}{pos:Pos}:∀{es:List Expr},es.all Yw=true->(backTo pos (starEach es env)).any (·.1)=false
 |[],_=>rfl
 |e::es,h=>by
  have h1:Yw e=true/\es.all Yw=true:=by simpa[List.all_cons,Bool.and_eq_true]using h
  rw[Yt h1.1]
  have ih:=ZaS (env:=env) (pos:=pos) h1.2
  unfold backTo at ih⊢
  rw[List.map_cons,List.any_cons,ih]
  rfl
theorem Ze{X:Cx}{e:Expr}{es:List Expr}{te:TE}{t:TA}(ha:PE X e te)(hr:PA X es t)(hs:Yw e=true:=by rfl):PA X (e::es) (YS te t):=ZaH ha hr (Yt hs)
structure FnE(P:Program)(w:World)(K:PySem.W.Frag)(mg:Str->Option Value)(base:Heap)(x:Str)(ps:List Str)(k:Nat)(sp:Sp):Prop where
 ex:∃f fd,FnOk P w K mg base CX0 k f fd ps sp/\mg x=some (.ref f)/\PySem.W.keepIn K (.ref f)=true/\Binds K fd ps []
theorem FnE.mono{P:Program}{w:World}{K:PySem.W.Frag}{mg:Str->Option Value}{base:Heap}{x:Str}{ps:List Str}{j k:Nat}{sp:Sp}(F:FnE P w K mg base x ps j sp)(h:j<=k):FnE P w K mg base x ps k sp:=
 let⟨f,fd,a,b⟩:=F.ex;⟨f,fd,a.mono h,b⟩
theorem Zjt{X:Cx}{x:Str}{ps:List Str}{k:Nat}{sp:Sp}{e:Expr}{es:List Expr}{t:TA}{p pos:Pos}(F:FnE X.prog X.w X.K X.mg X.base x ps k sp)(hr:Room k X.A)(ha:PA X (e::es) t)(hg:Gl X x:=by rfl)
  (hdb:(x==("__debug__":Str))=false:=by decide)(he:starEach (e::es) X.env=(false,eval e X.env)::starEach es X.env:=by rfl)(hpl:(backTo pos (starEach es X.env)).any (·.1)=false:=by rfl):
  PE X (.Call (.Name x p) (e::es) [] pos) (ZdP sp [] E0 t):=
 let⟨_,_,a,b,c,d⟩:=F.ex;ZaG a hr hg b c d .nil Zf7 ha hdb he hpl
theorem Z0{X:Cx}{x:Str}{ps:List Str}{k:Nat}{sp:Sp}{e:Expr}{es:List Expr}{t:TA}{p pos:Pos}(F:FnE X.prog X.w X.K X.mg X.base x ps k sp)(hr:Room k X.A)(ha:PA X (e::es) t)(hg:Gl X x:=by rfl)
  (hdb:(x==("__debug__":Str))=false:=by decide)(he:Yw e=true:=by rfl)(hpl:es.all Yw=true:=by rfl):PE X (.Call (.Name x p) (e::es) [] pos) (ZdP sp [] E0 t):=
 Zjt F hr ha hg hdb (Yt he) (ZaS hpl)
def Zh2(t:TA):TE:=fun σ H Q=>t σ H fun xs H1=>Nat.ble xs.length 1000=true/\∀p H',Same H1 H'->H' p=some (.tup xs)->Q (.ref p) H'
def Zc8(t:TA):TE:=fun σ H Q=>t σ H fun xs H1=>Nat.ble xs.length 1000=true/\∀p H',Same H1 H'->H' p=some (.lst xs)->Q (.ref p) H'
section
variable{X:Cx}{e:Expr}{es:List Expr}{te:TE}{t:TA}{pos:Pos}
theorem OpR.weak{f:Value->Value->Sem Value}{r r':R2}(h:OpR X f r)(k:∀x y H Q,r' x y H Q->r x y H Q):OpR X f r':=fun pins s σ H x y v u Q I rx ry q=>h pins s σ H x y v u Q I rx ry (k _ _ _ _ q)
theorem CallR.weak{f:Value}{r r':List V->Hp->VK->Prop}(h:CallR X f r)(k:∀xs H Q,r' xs H Q->r xs H Q):CallR X f r':=fun pins s σ H xs us Q I r q=>h pins s σ H xs us Q I r (k _ _ _ q)
theorem Zu{x1}(h:PA X es t):PE X (.Tuple es x1 pos) (Zh2 t):=by
 intro pins s σ H Q I hq
 refine wpAny_Tuple_spliced (thn (h pos pins s σ H _ I hq) fun us s1⟨xs,H1,I1,r,z,q⟩=>⟨by rw[<-r.length];exact Zbj z,?_⟩)
 have hf:H1 s1.heap.objs.size=none:=I1.hok.fresh (Nat.le_refl _)
 refine⟨.ref s1.heap.objs.size,upd H1 s1.heap.objs.size (.tup xs),I1.laid (t':=s1.toks) (fun b u e=>Heap.get?_push_of_some _ e) (Nat.le_refl _) ?_,rfl,q _ _ (ZI hf) Zf⟩
 exact⟨Zbj z,us,r,⟨_,Heap.get?_push_size _ rfl,rfl,_,rfl⟩⟩
theorem Yb(h:PA X es t):PE X (.List es pos) (Zc8 t):=by
 intro pins s σ H Q I hq
 refine wpAny_List_spliced (thn (h pos pins s σ H _ I hq) fun us s1⟨xs,H1,I1,r,z,q⟩=>⟨by rw[<-r.length];exact Zbj z,?_⟩)
 have hf:H1 s1.heap.objs.size=none:=I1.hok.fresh (Nat.le_refl _)
 refine⟨.ref s1.heap.objs.size,upd H1 s1.heap.objs.size (.lst xs),I1.laid (t':=s1.toks) (fun b u e=>Heap.get?_push_of_some _ e) (Nat.le_refl _) ?_,rfl,q _ _ (ZI hf) Zf⟩
 exact⟨Zbj z,us,0,r,Heap.get?_push_size _ rfl⟩
def rCatTS:R2:=fun x y H Q=>∃a b xs ys,x= .ref a/\y= .ref b/\H a=some (.tup xs)/\H b=some (.tup ys)/\xs.length+ys.length<=100000/\∀p H',Same H H'->H' p=some (.tup (xs++ys))->Q (.ref p) H'
theorem JW:OpR X (binaryOp .Add) rCatTS:=by
 intro pins s σ H x y v u Q I rx ry h
 obtain⟨a,b,xs,ys,rfl,rfl,ha,hb,hz,q⟩:=h
 by_cases h0:xs=[]
 ·subst h0
  exact ZfE pins s σ H _ _ v u Q I rx ry ⟨a,b,ys,rfl,rfl,SqT.of ha,SqT.of hb,q b H (Same.refl H) hb⟩
 ·refine ZgK pins s σ H _ _ v u Q I rx ry ⟨a,b,xs,ys,rfl,rfl,SqT.of ha,SqT.of hb,h0,Yq hz,fun z=>?_,fun _ p hp=>q p _ (ZI hp) Zf⟩
  subst z
  exact q a H (Same.refl H) (by rw[List.append_nil];exact ha)
def rCatLS:R2:=fun x y H Q=>∃a b xs ys,x= .ref a/\y= .ref b/\H a=some (.lst xs)/\H b=some (.lst ys)/\xs.length+ys.length<=100000/\∀p H',Same H H'->H' p=some (.lst (xs++ys))->Q (.ref p) H'
theorem Jr:OpR X (binaryOp .Add) rCatLS:=op_cat.weak fun x y H Q⟨a,b,xs,ys,e1,e2,h1,h2,z,q⟩=>⟨a,b,xs,ys,e1,e2,h1,h2,Yq z,fun p hp=>q p _ (ZI hp) Zf⟩
def rRepTS:R2:=fun x y H Q=>∃l k xs,x= .ref l/\y= .int k/\H l=some (.tup xs)/\1<k/\k<100000/\xs≠[]/\xs.length*k.toNat<=100000/\∀p H',Same H H'->H' p=some (.tup (List.replicate k.toNat xs).flatten)->Q (.ref p) H'
theorem ZfA:OpR X (binaryOp .Mult) rRepTS:=op_repT.weak fun x y H Q⟨l,k,xs,e1,e2,h,k1,k2,ne,z,q⟩=>⟨l,k,xs,e1,e2,SqT.of h,k1,by omega,ne,Yq z,fun p hp=>q p _ (ZI hp) Zf⟩
theorem ZA:CallR X (.type "tuple") (fun xs H Q=>∃p ys,xs=[.ref p]/\(H p=some (.lst ys)\/H p=some (.tup ys))/\∀l H',Same H H'->H' l=some (.tup ys)->Q (.ref l) H'):=
 call_tuple_of.weak fun xs H Q⟨p,ys,e,h,q⟩=>⟨p,ys,e,by
  rcases h with h|h
  ·exact .inl ⟨SqL.of h,fun l hl=>q l _ (ZI hl) Zf⟩
  ·exact .inr ⟨SqT.of h,q p H (Same.refl H) h⟩⟩
end
def YC(t:TE):Prop:=∀σ H(Q Q':VK),(∀v H',Q v H'->Q' v H')->t σ H Q->t σ H Q'
theorem ZJ(i:Nat):YC (Zcd i):=fun σ H Q Q' k⟨v,e,q⟩=>⟨v,e,k _ _ q⟩
theorem YB(v:V):YC (tC v):=fun σ H Q Q' k q=>k _ _ q
theorem Y6{K:PySem.W.Frag}{ta tb:TE}(ha:YC ta)(hb:YC tb):YC (tOp (ZgA K) ta tb):=fun σ H Q Q' k q=>ha σ H _ _ (fun x H1 q=>hb σ H1 _ _ (fun y H2⟨p,xs,i,v,e1,e2,h,a,q⟩=>⟨p,xs,i,v,e1,e2,h,a,k _ _ q⟩) q) q
def ZiY(K:PySem.W.Frag)(bs:List (Option Nat))(tl:TE)(g:TG)(tt:TT)(te:TE):TE:=fun σ H Q=>tl σ H fun x H1=>∃a xs,x= .ref a/\SqT K H1 a xs/\xs.length<=100000/\∃Pv:Nat->List V->St->Hp->Prop,Pv 0 [] (bst bs σ) H1/\
 (∀i ys σ H,i<=xs.length->Pv i ys σ H->SqT K H a xs/\ys.length<=i)/\
 (∀i x ys σ H,xs[i]?=some x->Pv i ys σ H->g x σ H fun σ3 H3=>tt σ3 H3 fun b H4=>if b=true then te σ3 H4 fun v H5=>Pv (i+1) (ys++[v]) σ3 H5 else Pv (i+1) ys σ3 H4)/\
 ∀ys σ H,Pv xs.length ys σ H->∀p H',Same H H'->H' p=some (.lst ys)->Q (.ref p) H'
theorem JJ{X:Cx}{scope:Scope}{cl:List (Str×Addr)}{N:List Str}{bs:List (Option Nat)}{tg iter elt:Expr}{ifs:List Expr}{pos:Pos}{tl:TE}{g:TG}{tt:TT}{te:TE}(B:Blk X scope cl N bs)(hc:X.calm=true)
  (hl:PE X iter tl)(hm:YC tl)(hg:∀C fp s H,PG (Z7 X scope cl C N fp s H) tg g) (ht:∀C fp s H,PTs (Z7 X scope cl C N fp s H) ifs tt) (he:∀C fp s H,PE (Z7 X scope cl C N fp s H) elt te)
  (hs:∀x,foldedSetIterable iter X.env x=pure x:=by intro _;rfl):PE X (.ListComp elt [⟨tg,iter,ifs,0⟩] scope pos) (ZiY X.K bs tl g tt te):=by
 intro pins s σ H Q I h
 refine @ZdW X scope cl N bs tg iter elt ifs pos (Zkc X.K tl) g tt te B hc (@Zat X _ _ _ hl) hg ht he hs pins s σ H Q I ?_
 refine hm σ H _ _ (fun x H1 h=>?_) h
 obtain⟨a,xs,e,hS,hz,Pv,p0,pl,ps,pd⟩:=h
 exact⟨a,e,⟨xs,hS⟩,Zi4 (Q:=Q) Pv (Yq hz) p0 pl ps fun ys σ H hp p hpn=>pd ys σ H hp p _ (ZI hpn) Zf⟩
def ZaB(t:TA):Prop:=∀σ H(Q Q':List V->Hp->Prop),(∀v H',Q v H'->Q' v H')->t σ H Q->t σ H Q'
theorem Yc:ZaB tNil:=fun σ H Q Q' k q=>k _ _ q
theorem ZN{te:TE}{tr:TA}(ha:YC te)(hr:ZaB tr):ZaB (YS te tr):=fun σ H Q Q' k q=>ha σ H _ _ (fun x H1 q=>hr σ H1 _ _ (fun xs H2 q=>k _ _ q) q) q
theorem ZfN{g:Int->Int->V}{ta tb:TE}(ha:YC ta)(hb:YC tb):YC (tOp (rI0 g) ta tb):=fun σ H Q Q' k q=>ha σ H _ _ (fun x H1 q=>hb σ H1 _ _ (fun y H2⟨i,j,e1,e2,q⟩=>⟨i,j,e1,e2,k _ _ q⟩) q) q
theorem ZgT{C:Int->Int->Prop}{g:Int->Int->V}{ta tb:TE}(ha:YC ta)(hb:YC tb):YC (tOp (rI C g) ta tb):=fun σ H Q Q' k q=>ha σ H _ _ (fun x H1 q=>hb σ H1 _ _ (fun y H2⟨i,j,e1,e2,c,q⟩=>⟨i,j,e1,e2,c,k _ _ q⟩) q) q
def Zld(K:PySem.W.Frag):List V->Hp->VK->Prop:=fun xs H Q=>∃p ys,xs=[.ref p]/\(SqL K H p ys\/SqT K H p ys)/\Q (.int ys.length) H
theorem JB{X:Cx}{K:PySem.W.Frag}(hK:X.K=K):CallR X (.builtin "len") (Zld K):=by
 subst hK
 exact Zk
theorem Zbk{lo:Int}{n:Nat}{g:TG}{tt:TT}{te:TE}{σ:St}{H:Hp}{Q:VK}(Pv:Nat->List V->St->Hp->Prop)(hz:n<=sizeLine)(h0:Pv 0 [] σ H)(hl:∀i ys σ H,i<=n->Pv i ys σ H->ys.length<=i)
  (hs:∀i ys σ H,i<n->Pv i ys σ H->g (.int (lo+i)) σ H fun σ3 H3=>tt σ3 H3 fun b H4=>if b=true then te σ3 H4 fun v H5=>Pv (i+1) (ys++[v]) σ3 H5 else Pv (i+1) ys σ3 H4)
  (hd:∀ys σ H,Pv n ys σ H->∀p,H p=none->Q (.ref p) (upd H p (.lst ys))):
  ∃W:Nat->Nat->List V->St->Hp->Prop,(∃m,W 0 m [] σ H)/\∀i m ys σ' H',W i m ys σ' H'->
   ((Itr lo n).stop i H'/\ys.length<=sizeLine/\∀p,H' p=none->Q (.ref p) (upd H' p (.lst ys)))\/
   ((Itr lo n).go i H'/\ys.length<sizeLine/\∃N:List V->St->Hp->Prop,(∀zs σ2 H2,N zs σ2 H2->∃m',m'<m/\W (i+1) m' zs σ2 H2)/\∀x H2,(Itr lo n).yld i H' x H2->g x σ' H2 fun σ3 H3=>tt σ3 H3 fun b H4=>
    if b=true then te σ3 H4 fun v H5=>N (ys++[v]) σ3 H5 else N ys σ3 H4):=by
 refine⟨fun i m ys σ H=>m=n-i/\i<=n/\Pv i ys σ H,⟨n,by simp,Nat.zero_le _,h0⟩,?_⟩
 rintro i m ys σ H ⟨rfl,hi,p⟩
 have ql:=hl i ys σ H hi p
 by_cases hlt:i<n
 ·refine .inr ⟨hlt,by omega,Pv (i+1),fun zs σ' H' p'=>⟨n-(i+1),by omega,rfl,hlt,p'⟩,fun x H' y=>?_⟩
  obtain⟨e,y⟩:=y
  subst e
  subst y
  exact hs i ys σ _ hlt p
 ·have e:i=n:=by omega
  subst e
  exact .inl ⟨Nat.le_refl _,by omega,hd ys σ H p⟩
def ZhR(bs:List (Option Nat))(ta:TA)(g:TG)(tt:TT)(te:TE):TE:=fun σ H Q=>ta σ H fun vs H1=>∃n:Nat,vs=[.int (n:Int)]/\n<=100000/\∃Pv:Nat->List V->St->Hp->Prop,Pv 0 [] (bst bs σ) H1/\
 (∀i ys σ H,i<=n->Pv i ys σ H->ys.length<=i)/\
 (∀i ys σ H,i<n->Pv i ys σ H->g (.int (0+i)) σ H fun σ3 H3=>tt σ3 H3 fun b H4=>if b=true then te σ3 H4 fun v H5=>Pv (i+1) (ys++[v]) σ3 H5 else Pv (i+1) ys σ3 H4)/\
 ∀ys σ H,Pv n ys σ H->∀p H',Same H H'->H' p=some (.lst ys)->Q (.ref p) H'
theorem Zau{X:Cx}{scope:Scope}{cl:List (Str×Addr)}{N:List Str}{bs:List (Option Nat)}{tg a elt:Expr}{ifs:List Expr}{p pos' pos:Pos}{ta:TA}{g:TG}{tt:TT}{te:TE}(B:Blk X scope cl N bs)(hc:X.calm=true)
  (hgl:Gl X "range")(hmr:X.mg "range"=none)(ha:PA X [a] ta)(hm:ZaB ta)(hpl:Yw a=true)(hg:∀C fp s H,PG (Z7 X scope cl C N fp s H) tg g) (ht:∀C fp s H,PTs (Z7 X scope cl C N fp s H) ifs tt) (he:∀C fp s H,PE (Z7 X scope cl C N fp s H) elt te)
  (hs:∀x,foldedSetIterable (.Call (.Name "range" p) [a] [] pos') X.env x=pure x:=by intro _;rfl):PE X (.ListComp elt [⟨tg,.Call (.Name "range" p) [a] [] pos',ifs,0⟩] scope pos) (ZhR bs ta g tt te):=by
 intro pins s σ H Q I h
 refine @ZdW X scope cl N bs tg _ elt ifs pos (ZcR ta) g tt te B hc (@ZM X tg a ta p pos' hgl hmr ha (Yt hpl)) hg ht he hs pins s σ H Q I ?_
 refine hm σ H _ _ (fun vs H1 h=>?_) h
 obtain⟨n,e,hz,Pv,p0,pl,ps,pd⟩:=h
 refine⟨(n:Int),e,by omega,by omega,?_⟩
 rw[Int.toNat_natCast]
 exact Zbk (Q:=Q) Pv (Yq hz) p0 pl ps fun ys σ H hp p hpn=>pd ys σ H hp p _ (ZI hpn) Zf
theorem Zhb{K:PySem.W.Frag}{a:Addr}{xs:List V}{g:TG}{tt:TT}{te:TE}{σ:St}{H:Hp}{Q:VK}(Pv:Nat->List V->St->Hp->Prop)(hz:xs.length<=sizeLine)(h0:Pv 0 [] σ H)(hl:∀i ys σ H,i<=xs.length->Pv i ys σ H->SqL K H a xs/\ys.length<=i)
  (hs:∀i x ys σ H,xs[i]?=some x->Pv i ys σ H->g x σ H fun σ3 H3=>tt σ3 H3 fun b H4=>if b=true then te σ3 H4 fun v H5=>Pv (i+1) (ys++[v]) σ3 H5 else Pv (i+1) ys σ3 H4)
  (hd:∀ys σ H,Pv xs.length ys σ H->∀p,H p=none->Q (.ref p) (upd H p (.lst ys))):
  ∃W:Nat->Nat->List V->St->Hp->Prop,(∃m,W 0 m [] σ H)/\∀i m ys σ' H',W i m ys σ' H'->
   ((Itl K a).stop i H'/\ys.length<=sizeLine/\∀p,H' p=none->Q (.ref p) (upd H' p (.lst ys)))\/
   ((Itl K a).go i H'/\ys.length<sizeLine/\∃N:List V->St->Hp->Prop,(∀zs σ2 H2,N zs σ2 H2->∃m',m'<m/\W (i+1) m' zs σ2 H2)/\∀x H2,(Itl K a).yld i H' x H2->g x σ' H2 fun σ3 H3=>tt σ3 H3 fun b H4=>
    if b=true then te σ3 H4 fun v H5=>N (ys++[v]) σ3 H5 else N ys σ3 H4):=by
 refine⟨fun i m ys σ H=>m=xs.length-i/\i<=xs.length/\Pv i ys σ H,⟨xs.length,by simp,Nat.zero_le _,h0⟩,?_⟩
 rintro i m ys σ H ⟨rfl,hi,p⟩
 obtain⟨q,ql⟩:=hl i ys σ H hi p
 by_cases hlt:i<xs.length
 ·refine .inr ⟨⟨xs,xs[i],q,by simp[hlt]⟩,by omega,Pv (i+1),fun zs σ' H' p'=>⟨xs.length-(i+1),by omega,rfl,hlt,p'⟩,fun x H' y=>?_⟩
  obtain⟨e,y⟩:=y
  subst e
  exact hs i x ys σ _ (y xs q) p
 ·have e:i=xs.length:=by omega
  subst e
  exact .inl ⟨⟨xs,q,Nat.le_refl _⟩,by omega,hd ys σ H p⟩
def ZkI(K:PySem.W.Frag)(bs:List (Option Nat))(tl:TE)(g:TG)(tt:TT)(te:TE):TE:=fun σ H Q=>tl σ H fun x H1=>∃a xs,x= .ref a/\SqL K H1 a xs/\xs.length<=100000/\∃Pv:Nat->List V->St->Hp->Prop,Pv 0 [] (bst bs σ) H1/\
 (∀i ys σ H,i<=xs.length->Pv i ys σ H->SqL K H a xs/\ys.length<=i)/\
 (∀i x ys σ H,xs[i]?=some x->Pv i ys σ H->g x σ H fun σ3 H3=>tt σ3 H3 fun b H4=>if b=true then te σ3 H4 fun v H5=>Pv (i+1) (ys++[v]) σ3 H5 else Pv (i+1) ys σ3 H4)/\
 ∀ys σ H,Pv xs.length ys σ H->∀p H',Same H H'->H' p=some (.lst ys)->Q (.ref p) H'
theorem Zfz{X:Cx}{scope:Scope}{cl:List (Str×Addr)}{N:List Str}{bs:List (Option Nat)}{tg iter elt:Expr}{ifs:List Expr}{pos:Pos}{tl:TE}{g:TG}{tt:TT}{te:TE}(B:Blk X scope cl N bs)(hc:X.calm=true)
  (hl:PE X iter tl)(hm:YC tl)(hg:∀C fp s H,PG (Z7 X scope cl C N fp s H) tg g) (ht:∀C fp s H,PTs (Z7 X scope cl C N fp s H) ifs tt) (he:∀C fp s H,PE (Z7 X scope cl C N fp s H) elt te)
  (hs:∀x,foldedSetIterable iter X.env x=pure x:=by intro _;rfl):PE X (.ListComp elt [⟨tg,iter,ifs,0⟩] scope pos) (ZkI X.K bs tl g tt te):=by
 intro pins s σ H Q I h
 refine @ZdW X scope cl N bs tg iter elt ifs pos (ZhD X.K tl) g tt te B hc (@ZaF X _ _ _ hl) hg ht he hs pins s σ H Q I ?_
 refine hm σ H _ _ (fun x H1 h=>?_) h
 obtain⟨a,xs,e,hS,hz,Pv,p0,pl,ps,pd⟩:=h
 exact⟨a,e,⟨xs,hS⟩,Zhb (Q:=Q) Pv (Yq hz) p0 pl ps fun ys σ H hp p hpn=>pd ys σ H hp p _ (ZI hpn) Zf⟩
end L2
namespace PySem
open Sem (wp)
open AutoSeq1 (wpAny_loadPart')
section
variable{prog:Program}{w:World}{A:Around}{E:Value->Shared->Prop}{s:Shared}
theorem JX{it l:Addr}{i:Nat}{items}{x:Value}{Q:Value->Shared->Prop}(hit:s.heap.IsTupleIter it l i)
  (hl:s.heap.IsTuple l items)(hx:items[i]?=some x)
  (hQ:∀h',h'.IsTupleIter it l (i+1)->Heap.SameBut it s.heap h'->Q x {s with heap:=h'}):
  wpAny (model prog w) A (Builtin.SmallTypes.nextOf (.ref it)) Q E s:=by
 obtain⟨o,ho,hc,hd⟩:=id hit
 obtain⟨ol,hol,_,nl,hdl⟩:=hl
 unfold Builtin.SmallTypes.nextOf
 refine wpAny_bind (wpAny_callSpecial?_slot (name:=Str.ofString "__next__") hit.typeIs F.slot_tuple_iterator_next
  (wpAny_call_entry F.slot_tuple_iterator_next hit.typeIs F.entry_tuple_iterator_next ?_ (F.args_tuple_iterator_next_1 _)))
 show wpAny _ _ (field (.ref it) 0>>=_) _ _ s
 refine wpAny_bind (wpAny_field ho hd (x:= .ref l) rfl ?_)
 show wpAny _ _ (if(Value.ref l==Value.none)=true then _ else _) _ _ s
 rw[if_neg (show¬((Value.ref l==Value.none)=true)from Bool.false_ne_true)]
 show wpAny _ _ (field (.ref it) 1>>=_) _ _ s
 refine wpAny_bind (wpAny_field ho hd (x:= .int i 0) rfl ?_)
 show wpAny _ _ (seqItems? (.ref l)>>=_) _ _ s
 refine wpAny_bind (wpAny_seqItems hol hdl ?_)
 simp only[Int.toNat_natCast,hx]
 refine wpAny_bind (wpAny_setField ho hd (by simp) (wpAny_pure ⟨x,rfl,wpAny_pure (hQ _ ?_ (Heap.SameBut.update ..))⟩))
 exact⟨_,Heap.get?_update_self _ ho (Obj.isFreed_of_fields (Obj.data_mapFields hd _)),(Obj.cls_mapFields ..).trans hc,by
  rw[Obj.data_mapFields hd];simp[rawInt]⟩
theorem YT{it l:Addr}{i:Nat}{items}{Q:Value->Shared->Prop}(hh:A.handled=none)
  (hit:s.heap.IsTupleIter it l i)(hl:s.heap.IsTuple l items)(hx:items[i]?=none)
  (hE:∀h' e,Heap.ExtBut it s.heap h'->(∃o,h'.get? e=some o/\o.cls= .type "StopIteration")->E (.ref e) {s with heap:=h'}):
  wpAny (model prog w) A (Builtin.SmallTypes.nextOf (.ref it)) Q E s:=by
 obtain⟨o,ho,hc,hd⟩:=id hit
 obtain⟨ol,hol,_,nl,hdl⟩:=hl
 unfold Builtin.SmallTypes.nextOf
 refine wpAny_bind (wpAny_callSpecial?_slot (name:=Str.ofString "__next__") hit.typeIs F.slot_tuple_iterator_next
  (wpAny_call_entry F.slot_tuple_iterator_next hit.typeIs F.entry_tuple_iterator_next ?_ (F.args_tuple_iterator_next_1 _)))
 show wpAny _ _ (field (.ref it) 0>>=_) _ _ s
 refine wpAny_bind (wpAny_field ho hd (x:= .ref l) rfl ?_)
 show wpAny _ _ (if(Value.ref l==Value.none)=true then _ else _) _ _ s
 rw[if_neg (show¬((Value.ref l==Value.none)=true)from Bool.false_ne_true)]
 show wpAny _ _ (field (.ref it) 1>>=_) _ _ s
 refine wpAny_bind (wpAny_field ho hd (x:= .int i 0) rfl ?_)
 show wpAny _ _ (seqItems? (.ref l)>>=_) _ _ s
 refine wpAny_bind (wpAny_seqItems hol hdl ?_)
 simp only[Int.toNat_natCast,hx]
 refine wpAny_bind (wpAny_rule (wpAny_bind (wpAny_setField ho hd (by simp) ?_)))
 show wpAny _ _ (newExc (.type "StopIteration") []>>=_) _ _ _
 refine wpAny_bind ?_
 simp only[newExc,newTuple]
 refine wpAny_bind (wpAny_newObj_type ?_ (by size_fits))
 refine wpAny_bind (m:=firstArgMember _ _) (wpAny_of_eq (a:=Value.none) (by first|rfl|(simp only[firstArgMember];rfl)) ?_)
 refine wpAny_newObj_type ?_ (by size_fits)
 simp only[raiseNew]
 refine wpAny_bind (wpAny_handled ?_)
 first|rw[show A.in1.handled=none from hh]|rw[hh]
 refine wpAny_bind (wpAny_pure (wpAny_throw ?_))
 exact hE _ _ (((Heap.SameBut.update ..).extBut.push _).push _) ⟨_,Heap.get?_push_size _ rfl,rfl⟩
end
theorem Draws.tupleD{prog:Program}{w:World}{A:Around}(hh:A.handled=none)(it l:Addr)(hne:l≠it)(items:Array Value):
  Draws prog w A it [it,l] items.size (fun i v=>items[i]?=some v) (fun i h=>h.IsTupleIter it l i/\h.IsTuple l items)where
 live:=fun _ _ st=>let⟨o,ho,_⟩:=st.1;⟨o,ho⟩
 frame:=fun _ _ _ st hk=>⟨let⟨o,ho,r⟩:=st.1;⟨o,hk it (by simp) o ho,r⟩,let⟨o,ho,r⟩:=st.2;⟨o,hk l (by simp) o ho,r⟩⟩
 item:=fun i s Q E hi st hQ=>by
  refine JX st.1 st.2 (x:=items[i]) (by simp[hi]) fun h' hit' hs'=>?_
  exact hQ _ h' s.toks (by simp[hi]) ⟨hit',st.2.extBut hs'.extBut hne⟩ hs'
 done:=fun s Q E st hE=>YT hh st.1 st.2 (by simp) hE
theorem Ju(l:Addr)(items:Array Value)(n:Nat)(dct:Option Addr)(sl:Array (Option Value)):
  Meets (Builtin.«enumerate.__new__» ⟨[.type "enumerate",.ref l],[]⟩) (fun _ R s=>s.heap.get? l=some {cls:= .type "tuple",dict:=dct,data:= .seq items n,slots:=sl}/\
   R (.ok (.ret (.ref (s.heap.push {cls:= .type "tuple_iterator",data:= .fields #[.ref l,.int 0 0]}).objs.size)))
    {s with heap:=(s.heap.push {cls:= .type "tuple_iterator",data:= .fields #[.ref l,.int 0 0]}).push {cls:= .type "enumerate",data:= .fields #[.none,.bool false,.ref s.heap.objs.size,rawInt 0,.none,.none]}}):=
 .of_wp fun prog w A R s h=>by
  obtain⟨hp,g,d,tk,os⟩:=s;obtain⟨hl,h⟩:=h
  have hsub:=sub_enumerate
  have hL:Heap.IsTuple (Shared.heap ⟨hp,g,d,tk,os⟩) l items:=⟨_,hl,rfl,n,rfl⟩
  wp_walk using wpAny_loadPart' hl
  refine wpAny_stack_any fun st=>wpAny_pure ?_
  split
  ·rename_i c _ _ _ _ _
   cases(c==Value.type "enumerate")
   ·wp_walk using wpAny_loadPart' hl,wpAny_pyIter_tuple hL
    exact⟨_,rfl,h⟩
   ·wp_walk using wpAny_loadPart' hl,wpAny_pyIter_tuple hL
    exact⟨_,rfl,h⟩
  ·wp_walk using wpAny_loadPart' hl,wpAny_pyIter_tuple hL
   exact⟨_,rfl,h⟩
section
variable{prog:Program}{w:World}{A:Around}{E:Value->Shared->Prop}{s:Shared}
theorem Jx{l:Addr}{items:Array Value}{Q:Value->Shared->Prop}(hL:s.heap.IsTuple l items)
  (h:∀h',IsEnum h' (s.heap.objs.size+1) s.heap.objs.size 0 .none->h'.IsTupleIter s.heap.objs.size l 0->h'.objs.size=s.heap.objs.size+2->
   (∀b o,s.heap.get? b=some o->h'.get? b=some o)->Q (.ref (s.heap.objs.size+1)) {s with heap:=h'}):
  wpAny (model prog w) A (call (.type "enumerate") [.ref l]) Q E s:=by
 obtain⟨⟨c,dct,dt,sl⟩,hl,hc,n,hd⟩:=hL
 replace hc:c= .type "tuple":=hc
 replace hd:dt= .seq items n:=hd
 subst hc hd
 refine callType_new F.called_enumerate (by decide) (F.typeCall_enumerate_1 _) (F.newCall_enumerate_1 _) (fun obj=>F.args_object_init_2 obj _) F.entry_enumerate_new
  (Ju l items n dct sl) ⟨hl,?_⟩
 have hz:(s.heap.push {cls:= .type "tuple_iterator",data:= .fields #[.ref l,.int 0 0]}).objs.size=s.heap.objs.size+1:=Heap.size_push ..
 show _/\_
 rw[hz]
 have he:IsEnum ((s.heap.push {cls:= .type "tuple_iterator",data:= .fields #[.ref l,.int 0 0]}).push
   {cls:= .type "enumerate",data:= .fields #[.none,.bool false,.ref s.heap.objs.size,rawInt 0,.none,.none]}) (s.heap.objs.size+1) s.heap.objs.size 0 .none:=by
  have:=Heap.get?_push_size (s.heap.push {cls:= .type "tuple_iterator",data:= .fields #[.ref l,.int 0 0]})
   (o:={cls:= .type "enumerate",data:= .fields #[.none,.bool false,.ref s.heap.objs.size,rawInt 0,.none,.none]}) rfl
  rw[hz]at this;exact this
 refine⟨⟨_,he,rfl⟩,h _ he ⟨_,Heap.get?_push_of_some _ (Heap.get?_push_size _ rfl),rfl,rfl⟩ (by rw[Heap.size_push,hz]) fun b o x=>Heap.get?_push_of_some _ (Heap.get?_push_of_some _ x)⟩
end
end PySem
namespace L2
open PySem PySem.Spec PyProof.Rows
theorem Inv.turnedL{X:Cx}{pins:List (Addr×Obj)}{σ:St}{H:Hp}{s:Shared}{h':Heap}{t':Nat}{ch:List Addr}(I:Inv X pins σ H s)(k:∀b o,b ∉ ch->s.heap.get? b=some o->h'.get? b=some o) (hf:∀b∈ch,FpOk X pins H b):Inv X pins σ H {s with heap:=h',toks:=t'}:=by
 have nit:∀b u,H b=some u->b ∉ ch:=fun b u e z=>by rw[(hf b z).1]at e;cases e
 refine I.step (g':=s.gens) (d':=s.drawn) (ch:=ch) (fun b hb=>⟨(hf b hb).2.2.2.1,(hf b hb).2.1,(hf b hb).2.2.2.2.1,(hf b hb).2.2.2.2.2⟩) (fun b o _ _ hc e _=>k b o hc e) (fun b o _ _ hc e _=>⟨o.slots,k b o hc e⟩) (fun _ _ _ _ n=>n)
  (fun b o hc e=>⟨o,k b o hc e⟩) (fun _ _ e=>e) (fun _ _ _ e=>e) (fun b ps e=>⟨#[],by rw[e];simp⟩) (fun m hm=>?_) (fun b u e=>?_) I.bare
 ·obtain⟨o,es,ep,ho,r⟩:=hm
  exact⟨o,es,ep,k _ o (fun z=>(hf _ z).2.1 rfl) ho,r⟩
 ·refine(I.hok b u e).stay (fun c v hc q=>k c v ?_ q) (fun _ q=>q) fun _ _ q=>q
  rcases hc with z|z
  ·rw[z];exact nit b u e
  ·exact nit c _ z
def Ite(K:PySem.W.Frag)(a:Addr):It:=
 ⟨fun i H=>∃xs x,SqT K H a xs/\xs[i]?=some x,fun i H x H'=>∃T y,x= .ref T/\H T=none/\H'=upd H T (.tup [.int i,y])/\∀xs,SqT K H a xs->xs[i]?=some y,fun i H=>∃xs,SqT K H a xs/\xs.length<=i⟩
theorem Ze2{P:Program}{w:World}{K:PySem.W.Frag}{elts:List Expr}{x1:Nat}{pos:Pos}(a e it:Addr)(hne:e≠it):
  Turn P w K (.Tuple elts x1 pos) (Ite K a) [e,it] e (fun i h=>(∃old,IsEnum h e it i old)/\h.IsTupleIter it a i)where
 mem:=by simp
 obj:=fun i h st b hb=>by
  obtain⟨⟨old,he⟩,o,ho,hc,hd⟩:=st
  rcases List.mem_cons.mp hb with rfl|hb
  ·exact⟨_,he,fun v z=>nomatch z⟩
  ·rw[List.mem_singleton.mp hb]
   exact⟨o,ho,fun v z=>by rw[hd]at z;cases z⟩
 keep:=fun i h h' st k=>by
  obtain⟨⟨old,he⟩,o,ho,r⟩:=st
  exact⟨⟨old,k e (by simp) _ he⟩,o,k it (by simp) o ho,r⟩
 item:=by
  intro X hP hw hK hc i pins s σ H E I hf st hg
  subst hP hw hK
  obtain⟨xs,x,hq,hx⟩:=hg
  obtain⟨its,rv,p,hz⟩:=I.tuple hq
  obtain⟨u,hu,ru⟩:=rv.get hx
  obtain⟨⟨old,he⟩,hit⟩:=st
  have fe:=hf e (by simp)
  have fi:=hf it (by simp)
  have ht:s.heap.IsTuple a its.toArray:=p
  have hlt:i<its.toArray.size:=by
   rw[List.size_toArray]
   exact(List.getElem?_eq_some_iff.mp hu).1
  have hai:a≠it:=fun z=>by
   obtain⟨o,ho,h1,_⟩:=ht
   obtain⟨o',ho',h2,_⟩:=hit
   rw[z,ho']at ho
   cases ho
   rw[h2]at h1
   exact absurd (Value.type.inj h1) (by decide)
  have hae:e≠a:=fun z=>by
   obtain⟨o,ho,h1,_⟩:=ht
   have he':s.heap.get? e=_:=he
   rw[z,ho]at he'
   cases he'
   exact absurd (Value.type.inj h1) (by decide)
  refine wpAny_pyNext_enum_itemD (Draws.tupleD (by simp[I.ok.hd hc]) it a hai its.toArray) he ⟨hit,ht⟩ hlt hne (by simp only[List.mem_cons,List.not_mem_nil,or_false,not_or];exact⟨hne,hae⟩) fun x' h' tk hP ho hs' hT hsz hk=>?_
  have ex:x'=u:=by
   rw[List.getElem?_toArray]at hP
   rw[hu]at hP
   exact(Option.some.inj hP).symm
  subst ex
  have I1:Inv X pins σ H {s with heap:=h',toks:=tk+1}:=I.turnedL (ch:=[e,it]) (fun b o hb q=>hk b o (fun z=>hb (by simp[z])) (fun z=>hb (by simp[z])) q) fun b hb=>hf b hb
  refine⟨_,rfl,wpAny_letOwnedTupleGo_enum (s:={s with heap:=h',toks:=tk+1}) ho fun h2 he2 sb=>?_⟩
  have I2:Inv X pins σ H {s with heap:=h2,toks:=tk+1}:=Inv.turnedL (s:={s with heap:=h',toks:=tk+1}) (t':=tk+1) (ch:=[e]) I1 (fun b o hb q=>(sb.2 b (fun z=>hb (by simp[z]))).trans q) fun b hb=>by rw[List.mem_singleton.mp hb];exact fe
  have hn:H s.heap.objs.size=none:=I.hok.fresh (Nat.le_refl _)
  have fT:FpOk X pins H s.heap.objs.size:=I.fpOk (Nat.le_refl _) hn
  have heT:s.heap.objs.size≠e:=Nat.ne_of_gt (Heap.lt_size he)
  have hT2:h2.get? s.heap.objs.size=some {cls:= .type "tuple",data:= .seq #[.int i tk,x']}:=(sb.2 _ heT).trans hT
  refine⟨.ref s.heap.objs.size,upd H s.heap.objs.size (.tup [.int i,x]),I2.track fT I.sz ?_,rfl,⟨_,x,rfl,hn,rfl,fun ys hy=>by rw[I.tuple_inj hy hq];exact hx⟩,⟨⟨x',by simpa using he2⟩,?_⟩,fun b hb=>?_⟩
  ·exact⟨Zbj rfl,[.int i tk,x'],.cons ⟨tk,rfl⟩ (.cons ru .nil),⟨_,hT2,rfl,_,rfl⟩⟩
  ·obtain⟨o,ho',r⟩:=hs'.1
   exact⟨o,(sb.2 _ (Ne.symm hne)).trans ho',r⟩
  ·rcases List.mem_cons.mp hb with rfl|hb
   ·rw[Zg (Ne.symm heT)];exact fe.1
   ·rw[List.mem_singleton.mp hb,Zg]
    ·exact fi.1
    ·obtain⟨o,ho',_⟩:=hit
     exact Nat.ne_of_lt (Heap.lt_size ho')
 done:=by
  intro X hP hw hK hc i pins s σ H E I hf st hg
  subst hP hw hK
  obtain⟨xs,hq,hx⟩:=hg
  obtain⟨its,rv,p,hz⟩:=I.tuple hq
  obtain⟨⟨old,he⟩,hit⟩:=st
  have ht:s.heap.IsTuple a its.toArray:=p
  have hl:=rv.length
  have hT:s.TypeIs (.ref e) "enumerate":=⟨_,he,rfl⟩
  unfold pyNext
  refine wpAny_bind (wpAny_attempt (wpAny_callSpecial?_slot (name:=Str.ofString "__next__") hT F.slot_enumerate_next
   (wpAny_call_entry F.slot_enumerate_next hT F.entry_enumerate_next ?_ (F.args_enumerate_next_1 _))))
  show wpAny _ _ (field (.ref e) 2>>=_) _ _ _
  refine wpAny_bind (wpAny_field he rfl (x:= .ref it) rfl ?_)
  refine wpAny_bind (YT (by simp[I.ok.hd hc]) hit ht (by simp;omega) fun h' x he' hx'=>?_)
  obtain⟨o,ho,hc'⟩:=hx'
  refine wpAny_bind (wpAny_isInstance (T:="StopIteration") (b:=true) ⟨o,ho,hc'⟩ isSubtype_stop ?_)
  exact wpAny_pure ⟨rfl,I.turnedL (t':=s.toks) (ch:=[it]) (fun b o hb q=>he' b o (fun z=>hb (by simp[z])) q) fun b hb=>by rw[List.mem_singleton.mp hb];exact hf it (by simp)⟩
 self:=fun _ _ _ _ _ st h=>by
  obtain⟨⟨old,he⟩,_⟩:=st
  exact wpAny_pyIter_enum he h
def ZhE(K:PySem.W.Frag)(ta:TA):TI:=fun σ H R=>ta σ H fun vs H1=>∃a,vs=[.ref a]/\(∃xs,SqT K H1 a xs)/\R (Ite K a) H1
theorem Zfa:bootBuiltins "enumerate"=some (.type "enumerate"):=by decide+kernel
theorem ZdU{X:Cx}{elts:List Expr}{x1:Nat}{tpos:Pos}{a:Expr}{ta:TA}{p pos:Pos}(hg:Gl X "enumerate")(hm:X.mg "enumerate"=none)(ha:PA X [a] ta)(hpl:Yw a=true):PI X (.Tuple elts x1 tpos) (.Call (.Name "enumerate" p) [a] [] pos) (ZhE X.K ta):=by
 intro pins s σ H R I h
 refine Call_ (Jh I hg hm Zfa (PyProof.Rows.callWith_type1 (thn (ha pos pins s σ H _ I h) fun us s1⟨vs,H1,I1,r1,q1⟩=>?_) (Yt hpl) rfl))
 obtain⟨b,e,⟨xs,hq⟩,q⟩:=q1
 subst e
 obtain⟨u,rfl,ru⟩:=vals1 r1
 cases(show u=Value.ref b from ru)
 obtain⟨its,rv,pt,hz⟩:=I1.tuple hq
 refine Jx (show s1.heap.IsTuple b its.toArray from pt) fun h' he hi hsz hk=>?_
 have I2:Inv X pins σ H1 {s1 with heap:=h'}:=I1.kept (t':=s1.toks) hk
 refine wpAny_pyIter_enum (s:={s1 with heap:=h'}) he ?_
 refine⟨s1.heap.objs.size+1,[s1.heap.objs.size+1,s1.heap.objs.size],_,_,H1,rfl,I2,Ze2 b _ _ (Nat.succ_ne_self _),⟨⟨.none,he⟩,hi⟩,fun c hc=>?_,q⟩
 rcases List.mem_cons.mp hc with rfl|hc
 ·exact I1.fpOk (Nat.le_succ _) (I1.hok.fresh (Nat.le_succ _))
 ·rw[List.mem_singleton.mp hc]
  exact I1.fpOk (Nat.le_refl _) (I1.hok.fresh (Nat.le_refl _))
def ZkJ(K:PySem.W.Frag)(bs:List (Option Nat))(ta:TA)(g:TG)(tt:TT)(te:TE):TE:=fun σ H Q=>ta σ H fun vs H1=>∃a xs,vs=[.ref a]/\SqT K H1 a xs/\xs.length<=100000/\∃Pv:Nat->List V->St->Hp->Prop,Pv 0 [] (bst bs σ) H1/\
 (∀i ys σ H,i<=xs.length->Pv i ys σ H->SqT K H a xs/\ys.length<=i)/\
 (∀i x ys σ H,xs[i]?=some x->Pv i ys σ H->∀T H2,Same H H2->H2 T=some (.tup [.int i,x])->g (.ref T) σ H2 fun σ3 H3=>tt σ3 H3 fun b H4=>if b=true then te σ3 H4 fun v H5=>Pv (i+1) (ys++[v]) σ3 H5 else Pv (i+1) ys σ3 H4)/\
 ∀ys σ H,Pv xs.length ys σ H->∀p H',Same H H'->H' p=some (.lst ys)->Q (.ref p) H'
theorem Zf0{X:Cx}{scope:Scope}{cl:List (Str×Addr)}{N:List Str}{bs:List (Option Nat)}{elts:List Expr}{x1:Nat}{tpos:Pos}{a elt:Expr}{ifs:List Expr}{p pos' pos:Pos}{ta:TA}{g:TG}{tt:TT}{te:TE}(B:Blk X scope cl N bs)(hc:X.calm=true)
  (hgl:Gl X "enumerate")(hmr:X.mg "enumerate"=none)(ha:PA X [a] ta)(hm:ZaB ta)(hpl:Yw a=true)(hg:∀C fp s H,PG (Z7 X scope cl C N fp s H) (.Tuple elts x1 tpos) g) (ht:∀C fp s H,PTs (Z7 X scope cl C N fp s H) ifs tt) (he:∀C fp s H,PE (Z7 X scope cl C N fp s H) elt te)
  (hs:∀x,foldedSetIterable (.Call (.Name "enumerate" p) [a] [] pos') X.env x=pure x:=by intro _;rfl):PE X (.ListComp elt [⟨.Tuple elts x1 tpos,.Call (.Name "enumerate" p) [a] [] pos',ifs,0⟩] scope pos) (ZkJ X.K bs ta g tt te):=by
 intro pins s σ H Q I h
 refine @ZdW X scope cl N bs _ _ elt ifs pos (ZhE X.K ta) g tt te B hc (@ZdU X elts x1 tpos a ta p pos' hgl hmr ha hpl) hg ht he hs pins s σ H Q I ?_
 refine hm σ H _ _ (fun vs H1 h=>?_) h
 obtain⟨a,xs,e,hS,hz,Pv,p0,pl,ps,pd⟩:=h
 refine⟨a,e,⟨xs,hS⟩,fun i m ys σ H=>m=xs.length-i/\i<=xs.length/\Pv i ys σ H,⟨xs.length,by simp,Nat.zero_le _,p0⟩,?_⟩
 rintro i m ys σ H ⟨rfl,hi,pv'⟩
 obtain⟨q,ql⟩:=pl i ys σ H hi pv'
 have hz':=Yq hz
 by_cases hlt:i<xs.length
 ·refine .inr ⟨⟨xs,xs[i],q,by simp[hlt]⟩,by omega,Pv (i+1),fun zs σ' H' p'=>⟨xs.length-(i+1),by omega,rfl,hlt,p'⟩,fun x H' y=>?_⟩
  obtain⟨T,y',rfl,hT,rfl,hy⟩:=y
  exact ps i y' ys σ H (hy xs q) pv' T _ (ZI hT) Zf
 ·have e:i=xs.length:=by omega
  subst e
  exact .inl ⟨⟨xs,q,Nat.le_refl _⟩,by omega,fun p hpn=>pd ys σ H pv' p _ (ZI hpn) Zf⟩
end L2
namespace SetT
open PySem PySem.SetTable
def adv(mask:Nat)(p:Probe):Probe:=
 if p.more>0 then{p with j:=p.j+1,more:=p.more-1}else
 {p with j:=(leap mask p.i p.perturb).1,more:=runEnd mask (leap mask p.i p.perturb).1-(leap mask p.i p.perturb).1,i:=(leap mask p.i p.perturb).1,perturb:=(leap mask p.i p.perturb).2}
def st0(mask:Nat)(b:Nat):Probe:={j:=b%(mask+1),more:=runEnd mask (b%(mask+1))-b%(mask+1),i:=b%(mask+1),perturb:=b,dummy:=none}
def stk(mask b:Nat):Nat->Probe
 |0=>st0 mask b
 |k+1=>adv mask (stk mask b k)
def pos(mask b k:Nat):Nat:=(stk mask b k).j
def rs(mask b:Nat):Nat->Nat×Nat
 |0=>(b%(mask+1),b)
 |n+1=>leap mask (rs mask b n).1 (rs mask b n).2
def fL(mask x:Nat):Nat:=(x*5+1)%(mask+1)
def itF(mask x:Nat):Nat->Nat
 |0=>x
 |n+1=>fL mask (itF mask x n)
def Zh8(mask x:Nat):Nat->List Nat
 |0=>[]
 |n+1=>x::Zh8 mask (fL mask x) n
def ZbP(mask:Nat):Bool:=(List.range (mask+1)).all (fun z=>(Zh8 mask 0 (mask+1)).contains z)&&(itF mask 0 (mask+1)==0)
theorem Zkh:ZbP 7=true:=by decide+kernel
theorem ZiF:ZbP 31=true:=by decide+kernel
theorem Zhi:ZbP 127=true:=by decide+kernel
theorem Zhh:ZbP 511=true:=by decide+kernel
def ZlD(xs:Array Nat):Prop:=∀i j,i<j->j<xs.size->xs.getD i 0<xs.getD j 0
structure ZhH(t:SetTable)(es:Array (Int×Value)):Prop where
 full:ZbP t.mask=true
 odd:t.mask%2=1
 nod:t.dummies=#[]
 rise:ZlD t.place
 le:∀(i v:Nat),t.place[i]?=some v->v<t.mask+1
 size:t.place.size=es.size
 path:∀(i v:Nat)(e:Int×Value),t.place[i]?=some v->es[i]?=some e->∃k,pos t.mask (bits e.1) k=v/\∀k',k'<k->∃i':Nat,t.place[i']?=some (pos t.mask (bits e.1) k')
variable{t:SetTable}{es:Array (Int×Value)}
end SetT
namespace SetT
open PySem PySem.SetTable PySem.Spec PyProof.Rows
variable{prog:Program}{w:World}{N:Addr->Prop}{A:Around}{E:Value->Shared->Prop}{s:Shared}
abbrev IsP(prog:Program)(w:World)(h:Heap)(k:List Int)(b:Addr):Prop:=IsTupleKey (intKind prog w) h k b
abbrev hk(prog:Program)(w:World)(k:List Int):Int:=(tupleKind (intKind prog w)).hash k
def EntK(prog:Program)(w:World)(N:Addr->Prop)(h:Heap)(e:Int×Value)(k:List Int):Prop:=∃b,(e.2= .ref b/\N b)/\IsP prog w h k b/\e.1=hk prog w k
theorem EntK.inj{h:Heap}{e:Int×Value}{k k':List Int}(x:EntK prog w N h e k)(y:EntK prog w N h e k'):k=k':=by
 obtain⟨b,⟨e1,_⟩,p,_⟩:=x
 obtain⟨b',⟨e2,_⟩,p',_⟩:=y
 rw[e1]at e2
 cases e2
 exact p.inj p'
theorem fits_of{t:SetTable}{es:Array (Int×Value)}(ok:ZhH t es)(room:es.size<t.mask+1):t.fits es.size=true:=by
 unfold SetTable.fits SetTable.fill
 rw[ok.size,ok.nod]
 simp
 omega
variable{prog:Program}{w:World}{N:Addr->Prop}{A:Around}{E:Value->Shared->Prop}{s:Shared}
variable{prog:Program}{w:World}{N:Addr->Prop}{A:Around}{E:Value->Shared->Prop}{s:Shared}
def Mk(m:Nat):Prop:=m=7\/m=31\/m=127\/m=511
theorem Mk.full{m:Nat}(h:Mk m):ZbP m=true/\m%2=1:=by
 rcases h with rfl|rfl|rfl|rfl
 ·exact⟨Zkh,rfl⟩
 ·exact⟨ZiF,rfl⟩
 ·exact⟨Zhi,rfl⟩
 ·exact⟨Zhh,rfl⟩
def SetP(prog:Program)(w:World)(N:Addr->Prop)(h:Heap)(a:Addr)(ks:List (List Int)):Prop:=
 ∃o es ep t,h.get? a=some o/\o.ExactSet/\o.data= .set es ep t/\ZhH t es/\Mk t.mask/\es.size*5<t.mask*3/\(∀e∈es.toList,∃k,EntK prog w N h e k)/\(∀k,k∈ks↔∃e∈es.toList,EntK prog w N h e k)/\es.size=ks.length/\ks.Nodup
variable{prog:Program}{w:World}{A:Around}{E:Value->Shared->Prop}{s:Shared}
def ZlC(h:Heap)(a:Addr)(n:Nat):Prop:=∃o es ep t,h.get? a=some o/\o.ExactSet/\o.data= .set es ep t/\t.fits es.size=true/\es.size=n
theorem SetP.num{N:Addr->Prop}{h:Heap}{a:Addr}{ks:List (List Int)}(x:SetP prog w N h a ks):ZlC h a ks.length:=by
 obtain⟨o,es,ep,t,ho,hex,hd,ok,mk,fl,_,_,hsz,_⟩:=x
 exact⟨o,es,ep,t,ho,hex,hd,fits_of ok (by omega),hsz⟩
end SetT
namespace PySem
open Sem (wp)
open PyProof.Rows
section
variable{prog:Program}{w:World}{A:Around}{R:Result->Shared->Prop}{I:Addr}{fp wr:List Addr}{n:Nat}{P:Nat->Value->Prop}{St:Nat->Heap->Prop}{d:Value}
theorem ZeG(W:Walks prog w A.in1 I fp wr n P St)(bt:Nat->Nat->Bool)(hcmp:CmpOf prog w A.in1 .Gt P bt)(S:Addr)(hSf:S ∉ fp):
  ∀(k j:Nat)(s:Shared)(vb:Value)(c:Nat),n-(j+1)=k->j+1<=n->St (j+1) s.heap->P (argBest bt j) vb->
  s.heap.get? S=some {cls:= .type "list",dict:=none,data:= .seq #[vb,vb] c,slots:=#[]}->
  (∀v h' tk,P (argBest bt (n-1)) v->(∀b o,b ∉ wr->b≠S->s.heap.get? b=some o->h'.get? b=some o)->R (.ok (.ret v)) {s with heap:=h',toks:=tk})->
  codeAny (model prog w) A (.builtin "max.loop" ⟨[.ref I,.none,.ref S],[("default",d)]⟩) R s:=by
 have hSw:S ∉ wr:=fun h=>hSf (W.sub _ h)
 have hname:(toString "max"++toString ".loop":String)="max.loop":=by decide
 intro k
 induction k with
 |zero=>
  intro j s vb c hk hj hst hPb hS hR
  have hin:j+1=n:=by omega
  refine codeAny_builtin F.entry_max_loop ?_
  rw[Around.under_plainId F.plain_max_loop _]
  show wpAny _ A.in1 (seqItems? (.ref S)>>=_) _ _ s
  refine wpAny_bind (wpAny_seqItems hS rfl ?_)
  show wpAny _ A.in1 (tryCatch (pyNext (.ref I)) _>>=_) _ _ s
  refine wpAny_bind (wpAny_tryCatch (W.done s _ _ (hin▸hst) fun h' tk hk'=>?_))
  have hS':=hk' S _ hSw hS
  show wpAny _ A.in1 (updateSeq S (fun _=>#[])>>=_) _ _ _
  refine wpAny_bind ?_
  refine wpAny_updateSeq hS' rfl (wpAny_bind (wpAny_letGo (wpAny_pure ?_)))
  refine hR vb _ tk (by rw[<-hin];exact hPb) fun b o hbw hbS e=>(Heap.get?_update_other _ _ (Ne.symm hbS)).trans (hk' b o hbw e)
 |succ k ih=>
  intro j s vb c hk hj hst hPb hS hR
  have hlt:j+1<n:=by omega
  refine codeAny_builtin F.entry_max_loop ?_
  rw[Around.under_plainId F.plain_max_loop _]
  show wpAny _ A.in1 (seqItems? (.ref S)>>=_) _ _ s
  refine wpAny_bind (wpAny_seqItems hS rfl ?_)
  show wpAny _ A.in1 (tryCatch (pyNext (.ref I)) _>>=_) _ _ s
  refine wpAny_bind (wpAny_tryCatch (W.item (j+1) s _ _ hlt hst fun v h' tk hP hst' hk'=>?_))
  have hS':=hk' S _ hSw hS
  show wpAny _ A.in1 (tryCatch (holding [v,v] (richCompare .Gt v vb>>=_)) _>>=_) _ _ _
  refine wpAny_bind (wpAny_tryCatch (wpAny_holding (wpAny_bind (hcmp (j+1) (argBest bt j) v vb _ _ _ hP hPb ?_))))
  refine wpAny_bind (wpAny_holding (wpAny_truthy_bool ?_))
  refine wpAny_bind (wpAny_letGo (wpAny_pure ?_))
  cases hb:bt (j+1) (argBest bt j)with
  |true=>
   simp only[if_true]
   refine wpAny_bind ?_
   refine wpAny_updateSeq hS' rfl (wpAny_bind (wpAny_letGo ?_))
   rw[hname]
   refine wpAny_pure ⟨plainId_quiet F.plain_max_loop _,ih (j+1) _ v _ (by omega) hlt (W.frame _ _ _ hst' fun b hbf o e=>?_) (by simp only[argBest,hb,if_true];exact hP) (Heap.get?_update_self _ hS' rfl)
    fun v' h'' tk'' hP' hk''=>?_⟩
   ·exact(Heap.get?_update_other _ _ (fun h:S=b=>hSf (by rw[h];exact hbf))).trans e
   ·exact hR v' h'' tk'' hP' fun b o hbw hbS e=>hk'' b o hbw hbS ((Heap.get?_update_other _ _ (Ne.symm hbS)).trans (hk' b o hbw e))
  |false=>
   simp only[Bool.false_eq_true,if_false]
   refine wpAny_bind (wpAny_letGo ?_)
   rw[hname]
   refine wpAny_pure ⟨plainId_quiet F.plain_max_loop _,ih (j+1) _ vb c (by omega) hlt hst' (by simp only[argBest,hb,Bool.false_eq_true,if_false];exact hPb) hS' fun v' h'' tk'' hP' hk''=>?_⟩
   exact hR v' h'' tk'' hP' fun b o hbw hbS e=>hk'' b o hbw hbS (hk' b o hbw e)
theorem Zd9(W:Walks prog w A.in1 I fp wr n P St)(bt:Nat->Nat->Bool)(hcmp:CmpOf prog w A.in1 .Gt P bt)(S:Addr)(hSf:S ∉ fp)(hn:0<n){s:Shared}{c:Nat}(hst:St 0 s.heap)
  (hS:s.heap.get? S=some {cls:= .type "list",dict:=none,data:= .seq #[] c,slots:=#[]})
  (hR:∀v h' tk,P (argBest bt (n-1)) v->(∀b o,b ∉ wr->b≠S->s.heap.get? b=some o->h'.get? b=some o)->R (.ok (.ret v)) {s with heap:=h',toks:=tk}):
  codeAny (model prog w) A (.builtin "max.loop" ⟨[.ref I,.none,.ref S],[("default",d)]⟩) R s:=by
 have hSw:S ∉ wr:=fun h=>hSf (W.sub _ h)
 have hname:(toString "max"++toString ".loop":String)="max.loop":=by decide
 refine codeAny_builtin F.entry_max_loop ?_
 rw[Around.under_plainId F.plain_max_loop _]
 show wpAny _ A.in1 (seqItems? (.ref S)>>=_) _ _ s
 refine wpAny_bind (wpAny_seqItems hS rfl ?_)
 show wpAny _ A.in1 (tryCatch (pyNext (.ref I)) _>>=_) _ _ s
 refine wpAny_bind (wpAny_tryCatch (W.item 0 s _ _ hn hst fun v h' tk hP hst' hk'=>?_))
 have hS':=hk' S _ hSw hS
 show wpAny _ A.in1 (updateSeq S (fun _=>#[v,v])>>=_) _ _ _
 refine wpAny_bind ?_
 refine wpAny_updateSeq hS' rfl ?_
 rw[hname]
 refine wpAny_pure ⟨plainId_quiet F.plain_max_loop _,ZeG W bt hcmp S hSf _ 0 _ v _ rfl hn (W.frame _ _ _ hst' fun b hbf o e=>?_) hP (Heap.get?_update_self _ hS' rfl) fun v' h'' tk'' hP' hk''=>?_⟩
 ·exact(Heap.get?_update_other _ _ (fun h:S=b=>hSf (by rw[h];exact hbf))).trans e
 ·exact hR v' h'' tk'' hP' fun b o hbw hbS e=>hk'' b o hbw hbS ((Heap.get?_update_other _ _ (Ne.symm hbS)).trans (hk' b o hbw e))
theorem maxD_empty(W:Walks prog w A.in1 I fp wr n P St)(S:Addr)(hSf:S ∉ fp)(hn:n=0){s:Shared}{c:Nat}(hst:St 0 s.heap)
  (hS:s.heap.get? S=some {cls:= .type "list",dict:=none,data:= .seq #[] c,slots:=#[]})
  (hR:∀h' tk,(∀b o,b ∉ wr->s.heap.get? b=some o->h'.get? b=some o)->R (.ok (.ret d)) {s with heap:=h',toks:=tk}):
  codeAny (model prog w) A (.builtin "max.loop" ⟨[.ref I,.none,.ref S],[("default",d)]⟩) R s:=by
 subst hn
 refine codeAny_builtin F.entry_max_loop ?_
 rw[Around.under_plainId F.plain_max_loop _]
 show wpAny _ A.in1 (seqItems? (.ref S)>>=_) _ _ s
 refine wpAny_bind (wpAny_seqItems hS rfl ?_)
 show wpAny _ A.in1 (tryCatch (pyNext (.ref I)) _>>=_) _ _ s
 refine wpAny_bind (wpAny_tryCatch (W.done s _ _ hst fun h' tk hk'=>?_))
 exact wpAny_bind (wpAny_rule (wpAny_pure (hR h' tk hk')))
end
section
variable{prog:Program}{w:World}{A:Around}{E:Value->Shared->Prop}{s:Shared}
theorem Zgq(a v:Value):argsOk "max" ⟨[a],[(Str.ofString "default",v)]⟩:=by unfold argsOk;kernel_rfl
theorem ZeU{x d:Value}{Q:Value->Shared->Prop}
  (h:wpAny (model prog w) A.in1 (pyIter x) (fun it s₂=>∃I fp wr n P St bt,it= .ref I/\Walks prog w A.in1 I fp wr n P St/\St 0 s₂.heap/\(∀b∈fp,b<s₂.heap.objs.size)/\CmpOf prog w A.in1 .Gt P bt/\
   (n=0->∀h' tk,(∀b o,b ∉ wr->s₂.heap.get? b=some o->h'.get? b=some o)->Q d {s₂ with heap:=h',toks:=tk})/\
   (0<n->∀v h' tk,P (argBest bt (n-1)) v->(∀b o,b ∉ wr->s₂.heap.get? b=some o->h'.get? b=some o)->Q v {s₂ with heap:=h',toks:=tk})) E s):
  wpAny (model prog w) A (call (.builtin "max") [x] [(Str.ofString "default",d)]) Q E s:=by
 have hname:(toString "max"++toString ".loop":String)="max.loop":=by decide
 refine kmk_tree F.kind_max F.plain_max F.entry_max (Zgq _ _) ?_
 show wpAny _ A.in1 (Builtin.Builtins.bindParams "max" ["key","default"] 0 ⟨[],[(Str.ofString "default",d)]⟩>>=_) _ _ s
 refine wpAny_bind (wpAny_of_eq (show Builtin.Builtins.bindParams "max" ["key","default"] 0 ⟨[],[(Str.ofString "default",d)]⟩=pure [none,some d]from rfl) ?_)
 refine wpAny_bind (wpAny_pure ?_)
 refine wpAny_bind (wpAny_mono h (fun it s₂ h₂=>?_) fun _ _ e=>e)
 obtain⟨I,fp,wr,n,P,St,bt,rfl,W,hst,hfp,hcmp,h0,hQ⟩:=h₂
 refine wpAny_bind (wpAny_newObj_type ?_)
 have hSf:s₂.heap.objs.size ∉ fp:=fun hm=>Nat.lt_irrefl _ (hfp _ hm)
 rw[hname]
 rcases Nat.eq_zero_or_pos n with hn|hn
 ·refine wpAny_pure ⟨plainId_quiet F.plain_max_loop _,maxD_empty W s₂.heap.objs.size hSf hn (W.frame _ _ _ hst fun b _ o e=>Heap.get?_push_of_some _ e) (Heap.get?_push_size _ rfl) fun h' tk hk=>?_⟩
  exact h0 hn h' tk fun b o hbw e=>hk b o hbw (Heap.get?_push_of_some _ e)
 ·refine wpAny_pure ⟨plainId_quiet F.plain_max_loop _,Zd9 W bt hcmp s₂.heap.objs.size hSf hn (W.frame _ _ _ hst fun b _ o e=>Heap.get?_push_of_some _ e) (Heap.get?_push_size _ rfl) fun v h' tk hP hk=>?_⟩
  exact hQ hn v h' tk hP fun b o hbw e=>hk b o hbw (Nat.ne_of_lt (Heap.lt_size e)) (Heap.get?_push_of_some _ e)
end
end PySem
namespace L2
open PySem PySem.Spec PyProof.Rows
def ZiW(K:PySem.W.Frag)(d:Int)(ta:TE):TE:=fun σ H Q=>ta σ H fun x H1=>∃p,∃ns:List Int,x= .ref p/\SqL K H1 p (ns.map V.int)/\∀M,((ns=[]/\M=d)\/(M∈ns/\∀a∈ns,a<=M))->Q (.int M) H1
theorem boot_max:bootBuiltins "max"=some (.builtin "max"):=by decide+kernel
theorem ZgF{X:Cx}{a ed:Expr}{ta:TE}{d:Int}{p pos kpos:Pos}(hc:X.calm=true)(ha:PE X a ta)(hd:PE X ed (tC (.int d)))(hg:Gl X "max":=by rfl)(hm:X.mg "max"=none:=by rfl)(hs:starEach [a] X.env=[(false,eval a X.env)]:=by rfl):
  PE X (.Call (.Name "max" p) [a] [⟨some "default",ed,kpos⟩] pos) (ZiW X.K d ta):=by
 intro pins s σ H Q I h
 refine wpAny_Call_Name_kw (Jh I hg hm boot_max ?_)
 refine callWith_kw (id:="max") (thn ((ZaH ha Za hs:PA X [a] (YS ta tNil)) pos pins s σ H (Zea fun x H1=>∃p,∃ns:List Int,x= .ref p/\SqL X.K H1 p (ns.map V.int)/\∀M,((ns=[]/\M=d)\/(M∈ns/\∀a∈ns,a<=M))->Q (.int M) H1) I h) fun us s1⟨vs,H1,I1,r1,q1⟩=>?_) (by rw[hs];rfl) (by rw[hs];rfl)
 obtain⟨x1,rfl,q1⟩:=Zbe q1
 obtain⟨u1,rfl,ru⟩:=vals1 r1
 obtain⟨l,ns,rfl,hp,q⟩:=q1
 cases ru
 show wpAny _ _ (evalAll [(do let v<-eval ed X.env;standAt pos;pure v)]) _ _ s1
 refine wpAny_evalAll_cons (wpAny_bind (thn (hd pins s1 σ H1 (fun v H2=>v= .int d/\H2=H1) I1 ⟨rfl,rfl⟩) fun ud s2⟨v2,H2,I2,r2,e1,e2⟩=>wpAny_bind (wpAny_standAt (wpAny_pure (wpAny_evalAll_nil ?_)))))
 subst e1 e2
 obtain⟨td,rfl⟩:=r2
 show wpAny _ _ (call (.builtin "max") [.ref l] [(Str.ofString "default",.int d td)]) _ _ s2
 obtain⟨vs,rv,pl,hz⟩:=I2.list hp
 have hl:=pl.isList
 have hlt:l<s2.heap.objs.size:=by obtain⟨_,e,_⟩:=hl;exact Heap.lt_size e
 have hlen:vs.length=ns.length:=by have:=rv.length;simpa using this.symm
 have hval:∀i v,vs.toArray[i]?=some v->∃t,v=Value.int (ns.getD i 0) t:=by
  intro i v e
  have e':vs[i]?=some v:=by simpa using e
  have hi:i<ns.length:=by rw[<-hlen];exact(List.getElem?_eq_some_iff.mp e').1
  obtain⟨u,e2,r2⟩:=rv.get (i:=i) (x:= .int ns[i]) (by rw[List.getElem?_map,List.getElem?_eq_getElem hi];rfl)
  rw[e']at e2
  cases e2
  obtain⟨t,rfl⟩:=r2
  exact⟨t,by rw[List.getD_eq_getElem?_getD,List.getElem?_eq_getElem hi];rfl⟩
 have keep:∀(it:Obj)(h':Heap),(∀b o,b ∉ [s2.heap.objs.size]->(s2.heap.push it).get? b=some o->h'.get? b=some o)->∀b o,s2.heap.get? b=some o->h'.get? b=some o:=fun it h' hk b o e2=>hk b o (fun hm=>by
  rw[List.mem_singleton.mp hm]at e2
  exact Nat.lt_irrefl _ (Heap.lt_size e2)) (Heap.get?_push_of_some _ e2)
 refine ZeU (wpAny_pyIter_list hl ?_)
 refine⟨s2.heap.objs.size,[s2.heap.objs.size,l],[s2.heap.objs.size],_,_,_,_,rfl,Walks.list (A:=X.A.in1) (I2.ok.hd hc) _ l (Nat.ne_of_lt hlt) vs.toArray,⟨⟨_,Heap.get?_push_size _ rfl,rfl,rfl⟩,hl.push _⟩,fun b hb=>?_,CmpOf.ints_gt (fun i=>ns.getD i 0) hval,fun hn h' tk hk=>?_,fun hn v h' tk hP hk=>?_⟩
 ·show b<(s2.heap.push _).objs.size
  rw[Heap.size_push]
  simp only[List.mem_cons,List.not_mem_nil,or_false]at hb
  rcases hb with rfl|rfl
  ·exact Nat.lt_succ_self _
  ·exact Nat.lt_succ_of_lt hlt
 ·rw[List.size_toArray,hlen]at hn
  exact⟨.int d,_,I2.kept (t':=tk) (keep _ _ hk),⟨td,rfl⟩,q d (.inl ⟨List.length_eq_zero_iff.mp hn,rfl⟩)⟩
 ·obtain⟨t,rfl⟩:=hval _ _ hP
  obtain⟨h1,h2⟩:=argBest_gt (fun i=>ns.getD i 0) (vs.toArray.size-1)
  rw[List.size_toArray,hlen]at h1 h2 hn
  rw[List.size_toArray,hlen]
  refine⟨.int _,_,I2.kept (t':=tk) (keep _ _ hk),⟨t,rfl⟩,q _ (.inr ⟨?_,fun a ha=>?_⟩)⟩
  ·have hlt:argBest (fun i j=>decide (ns.getD i 0>ns.getD j 0)) (ns.length-1)<ns.length:=by omega
   rw[List.getD_eq_getElem?_getD,List.getElem?_eq_getElem hlt]
   exact List.getElem_mem hlt
  ·obtain⟨j,hj,rfl⟩:=List.getElem_of_mem ha
   have:=h2 j (by omega)
   rw[List.getD_eq_getElem?_getD (i:=j),List.getElem?_eq_getElem hj]at this
   exact this
section
variable{X:Cx}
def gGetL:V->V->Hp->VK->Prop:=fun o i H Q=>∃p xs,∃k:Nat,∃v,o= .ref p/\i= .int (k:Int)/\H p=some (.lst xs)/\xs[k]?=some v/\Q v H
theorem Zgd:Zk9 X gGetL:=by
 intro pins s σ H o i ov iv Q I ro ri h
 obtain⟨p,xs,k,v,rfl,rfl,hp,hv,q⟩:=h
 cases(show ov=Value.ref p from ro)
 obtain⟨t,rfl⟩:=ri
 obtain⟨its,r,pl,hz⟩:=I.list (SqL.of (K:=X.K) hp)
 obtain⟨w,ew,rw'⟩:=r.get hv
 have hk:k<xs.length:=(List.getElem?_eq_some_iff.mp hv).1
 have hn:=Zay
 exact wpAny_getItem_list pl.isList (Int.natCast_nonneg k) (by omega) (by rw[Int.toNat_natCast];simpa using ew) ⟨v,H,I,rw',q⟩
def rSetN:V->V->V->Hp->(Hp->Prop)->Prop:=fun o i v H Q=>∃p xs,∃k:Nat,o= .ref p/\i= .int (k:Int)/\H p=some (.lst xs)/\k<xs.length/\Q (upd H p (.lst (xs.set k v)))
theorem Zas:Zh1 X rSetN:=by
 intro pins s σ H o i v ov iv u Q I ro ri rv h
 obtain⟨p,xs,k,e1,e2,hp,hk,q⟩:=h
 refine set_list pins s σ H o i v ov iv u Q I ro ri rv ⟨p,xs,k,k,e1,e2,hp,?_,q⟩
 unfold ixN
 rw[if_pos (Int.natCast_nonneg k),if_pos (by omega),Int.toNat_natCast]
end
theorem Zjq{X:Cx}{scope:Scope}{cl:List (Str×Addr)}{N:List Str}{bs:List (Option Nat)}{tg iter elt:Expr}{ifs:List Expr}{pos spos px:Pos}{x:Str}{wi:TI}{g gt:TG}{tt:TT}{te:TE}(B:Blk X scope cl N bs)(hc:X.calm=true)
  (hi:PI X tg iter wi)(hg:∀C fp s H,PG (Z7 X scope cl C N fp s H) tg g) (ht:∀C fp s H,PTs (Z7 X scope cl C N fp s H) ifs tt) (he:∀C fp s H,PE (Z7 X scope cl C N fp s H) elt te)
  (hgt:PG X (.Name x px) gt) (hsw:swapsWith (.ListComp elt [⟨tg,iter,ifs,0⟩] scope pos) (some (.Name x px)) spos.line X.env=pure true)
  (hs:∀x,foldedSetIterable iter X.env x=pure x:=by intro _;rfl):
  PS X (.Assign [.Name x px] (.ListComp elt [⟨tg,iter,ifs,0⟩] scope pos) spos) (Zdo (tLC bs wi g tt te) gt):=by
 intro pins s σ H D I h
 rw[exec_Assign_Name_used _ _ _ _ hsw]
 refine wpAny_bind (wpAny_standAt (wpAny_bind ?_))
 show wpAny _ X.A (do let _<-comprehension (.ListComp elt [⟨tg,iter,ifs,0⟩] scope pos) scope X.env _ (newList []) false (eval iter X.env) (some (assign (.Name x px) X.env))) _ _ s
 refine wpAny_bind (wpAny_mono (wpAny_comprehension_free (use:=some (assign (.Name x px) X.env)) (Q:=fun _ s'=>∃σ' H',Inv X pins σ' H' s'/\D.nx σ' H') rfl hs B.clos B.kind B.names (thn (hi pins s σ H _ I h) fun v s1 h1=>thn h1 fun itv s2 h2=>?_)) (fun _ s' hq=>wpAny_pure (wpAny_pure hq)) fun _ _ e=>e)
 obtain⟨it,fp,tn,J,H2,rfl,I2,T,st2,f2,W,⟨m0,w0⟩,turn⟩:=h2
 refine wpAny_newObj_type (wpAny_newFunctionEnv B.cell (by intro y hy;simp at hy) (fun h₁ hns₁ hsb₁=>?_) B.kind)
 dsimp only at hns₁ hsb₁⊢
 generalize hG:s2.heap.push {cls:= .type "list",dict:=none,data:= .seq ([]:List Value).toArray}=G at hns₁ hsb₁⊢
 have hC:G.objs.size=s2.heap.objs.size+1:=by rw[<-hG,Heap.size_push]
 have hDC:s2.heap.objs.size≠G.objs.size:=by rw[hC];exact Nat.ne_of_lt (Nat.lt_succ_self _)
 have hCle:s2.heap.objs.size<=G.objs.size:=by rw[hC];exact Nat.le_succ _
 have old:∀b o,s2.heap.get? b=some o->h₁.get? b=some o:=fun b o e=>hsb₁.extBut b o (by rw[hC];exact Nat.ne_of_lt (Nat.lt_succ_of_lt (Heap.lt_size e))) (Heap.get?_push_of_some _ (hG▸Heap.get?_push_of_some _ e))
 have hacc:h₁.get? s2.heap.objs.size=some {cls:= .type "list",data:= .seq ([]:List Value).toArray 0}:=hsb₁.extBut _ _ hDC (Heap.get?_push_of_some _ (hG▸Heap.get?_push_size _ rfl))
 have stat:∀{D:Addr}{o:Obj}{H':Hp},s2.heap.objs.size<=D->(∀b∈fp,H' b=none)->∀b∈fp,FpOk (Z7 X scope cl G.objs.size N fp s2 H2) [(D,o)] H' b:=fun{D o H'} hD hn b hb=>by
  obtain⟨ob,eb,_⟩:=T.obj _ _ st2 b hb
  obtain⟨_,f1,f3,f4,f5,_⟩:=f2 b hb
  have ok:=B.ok I2 f2 (T.obj _ _ st2) (C:=G.objs.size) hCle
  refine⟨hn b hb,(ok.exf b hb).1,ok.exfs b hb,.inl hb,(ok.exf b hb).2,fun p hp=>?_⟩
  have e:p=(D,o):=by simpa[Z7]using hp
  subst e
  exact Nat.ne_of_gt (Nat.lt_of_lt_of_le (Heap.lt_size eb) hD)
 have loop:∀s₃:Shared,s₃={s2 with heap:=h₁,toks:=s2.toks+([]:List (Str×Value)).length}->
   codeAny (model X.prog X.w) X.A (.compLoop (.ListComp elt [⟨tg,iter,ifs,0⟩] scope pos) 0 (.ref it) (.ref s2.heap.objs.size) (compEnvC scope cl G.objs.size X.env))
    (compPost (model X.prog X.w) X.A X.xe (some (assign (.Name x px) X.env)) (fun _ s'=>∃σ' H',Inv X pins σ' H' s'/\D.nx σ' H') (.ref s2.heap.objs.size) G.objs.size) s₃:=by
  rintro s₃ rfl
  refine Yo (fun n s'=>∃i ys its k σ' H',Inv (Z7 X scope cl G.objs.size N fp s2 H2) [(s2.heap.objs.size,{cls:= .type "list",data:= .seq (List.toArray its) k})] σ' H' s'/\Vals ys its/\tn i s'.heap/\(∀b∈fp,H' b=none)/\W i n ys σ' H') ?_ m0
   ⟨0,[],[],0,bst bs σ,H2,B.inv I2 f2 (T.obj _ _ st2) hCle old hns₁ hacc (Nat.le_refl _) hDC (fun v z=>nomatch z),.nil,T.keep _ _ _ st2 fun b _ o e=>old b o e,fun b hb=>(f2 b hb).1,w0⟩
  rintro n s3 ⟨i,ys,its,k,σ3,H3,I3,rv,st3,fr3,w3⟩
  have pD:=I3.pin _ (List.mem_append_right _ (.head _))
  rcases turn i n ys σ3 H3 w3 with⟨stop,hz,qn⟩|⟨go,hz,NN,hNN,step⟩
  ·refine thn (T.done (Z7 X scope cl G.objs.size N fp s2 H2) rfl rfl rfl hc i _ s3 σ3 H3 (fun _ _=>False) I3 (stat (Nat.le_refl _) fr3) st3 stop) fun r s4⟨hr,I4⟩=>?_
   subst hr
   have pD4:=I4.pin _ (List.mem_append_right _ (.head _))
   obtain⟨m4,hn4,_⟩:=I4.loc
   have hD5:s4.heap.get? s2.heap.objs.size=some {cls:= .type "list",data:= .seq (List.toArray its) k}:=pD4.1
   have k5:∀b o,b≠G.objs.size->s4.heap.get? b=some o->s4.heap.get? b=some o:=fun b o hb e=>e
   have hC4:H3 G.objs.size=none:=I4.free
   have hok4:HOk X.prog X.w H3 s4.heap:=I4.hok
   have hok5:HOk X.prog X.w (upd H3 s2.heap.objs.size (.lst ys)) s4.heap:=fun b u e=>by
    by_cases hb:b=s2.heap.objs.size
    ·subst hb
     rw[Zf]at e
     cases e
     exact⟨hz,its,k,rv,hD5⟩
    ·rw[Zg hb]at e
     have nC:∀c u',H3 c=some u'->c≠G.objs.size:=fun c u' q z=>by rw[z,hC4]at q;cases q
     have nD:∀c u',H3 c=some u'->c≠s2.heap.objs.size:=fun c u' q z=>by rw[z,pD4.2.1]at q;cases q
     refine(hok4 b u e).stay (fun c v hc' q=>k5 c v ?_ q) (fun c q=>by rw[Zg (nD c _ q)];exact q) fun c xs q=>by rw[Zg (nD c _ q)];exact q
     rcases hc' with z|z
     ·rw[z];exact nC b u e
     ·exact nC c _ z
   have un4:Un (frs X.stack) fp H2 H3 s2.heap s4.heap:=I4.base
   have neC:∀b o,s2.heap.get? b=some o->b≠G.objs.size:=fun b o e=>Nat.ne_of_lt (Nat.lt_of_lt_of_le (Heap.lt_size e) hCle)
   have neD:∀b o,s2.heap.get? b=some o->b≠s2.heap.objs.size:=fun b o e=>Nat.ne_of_lt (Heap.lt_size e)
   have un5:Un (frs X.stack) fp H2 (upd H3 s2.heap.objs.size (.lst ys)) s2.heap s4.heap:={
    keep:=fun b o e n hb hx=>k5 b o (neC b o e) (un4.keep b o e n hb hx)
    slot:=fun b o e n hb hx=>let⟨sl,q⟩:=un4.slot b o e n hb hx;⟨sl,k5 b _ (neC b o e) q⟩
    free:=fun b o e n hx=>by rw[Zg (neD b o e)];exact un4.free b o e n hx
    there:=fun b o e hx=>let⟨o',q⟩:=un4.there b o e hx;⟨o',k5 b _ (neC b o e) q⟩
    tups:=fun b xs e=>by rw[Zg (Zz e (I2.hok.fresh (Nat.le_refl _)))];exact un4.tups b xs e
    frzs:=fun b o u e=>by rw[Zg (Zz e (I2.hok.fresh (Nat.le_refl _)))];exact un4.frzs b o u e
    tbls:=fun b ps e=>by rw[Zg (Zz e (I2.hok.fresh (Nat.le_refl _)))];exact un4.tbls b ps e}
   have IE:Inv X pins σ (upd H3 s2.heap.objs.size (.lst ys)) s4:=I2.call' (s':=s4) ((show s4.os=s2.os from I4.os)) un5 hok5 I4.bare (fun b hb=>by
    obtain⟨_,f1,f3,f4,f5,f6⟩:=f2 b hb
    exact⟨f4,f1,f5,f6⟩)
   have hnC:(upd H3 s2.heap.objs.size (.lst ys)) G.objs.size=none:=by rw[Zg (Ne.symm hDC)];exact hC4
   obtain⟨_,c1,c2,c3,c4,c5⟩:FpOk X pins (upd H3 s2.heap.objs.size (.lst ys)) G.objs.size:=I2.fpOk hCle hnC
   obtain⟨oC,es4,ep4,hoC,rC⟩:=hn4
   have IP:Inv X (pins++[(G.objs.size,oC)]) σ (upd H3 s2.heap.objs.size (.lst ys)) s4:=IE.pins_of fun p hp=>by
    rcases List.mem_append.mp hp with z|z
    ·exact IE.pin p (List.mem_append_right _ z)
    ·rw[List.mem_singleton.mp z]
     exact⟨hoC,hnC,c1,c2,fun v z=>by rw[rC.1]at z;cases z⟩
   refine thn (hgt (pins++[(G.objs.size,oC)]) s4 σ _ (.ref s2.heap.objs.size) (.ref s2.heap.objs.size) _ IP rfl (qn _ pD4.2.1)) fun _ s6⟨σ6,H6,I6,q6⟩=>?_
   have pC:=I6.pin (G.objs.size,oC) (List.mem_append_right _ (List.mem_append_right _ (.head _)))
   refine⟨m4,⟨oC,es4,ep4,pC.1,rC⟩,fun h7 sb7=>⟨σ6,H6,(I6.unpinned).turned (it:=G.objs.size) (t':=s6.toks) (fun b o hb e=>sb7.extBut b o hb e) pC.2.1 c1 c3 c4 c5,q6⟩⟩
  ·refine thn (T.item (Z7 X scope cl G.objs.size N fp s2 H2) rfl rfl rfl hc i _ s3 σ3 H3 (fun _ _=>False) I3 (stat (Nat.le_refl _) fr3) st3 go) fun r s4⟨u,hr,h4⟩=>?_
   subst hr
   refine thn h4 fun _ s5⟨x,H5,I5,r5,y5,st5,fr5⟩=>?_
   have I5':=I5.pinned (stat (Nat.le_refl _) fr5) (T.obj _ _ st5)
   refine thn (hg _ _ _ _ _ s5 σ3 H5 x u _ I5' r5 (step x H5 y5)) fun _ s6⟨σ6,H6,I6,q6⟩=>?_
   refine thn (ht _ _ _ _ _ s6 σ6 H6 _ I6 q6) fun ok s7⟨H7,I7,q7⟩=>?_
   have back:∀{σ8:St}{H8:Hp}{s8:Shared}{pl:List (Addr×Obj)},Inv (Z7 X scope cl G.objs.size N fp s2 H2) (pl++Yn fp s5.heap) σ8 H8 s8->tn (i+1) s8.heap/\∀b∈fp,H8 b=none:=fun{σ8 H8 s8 pl} I8=>
    ⟨T.keep _ _ _ st5 fun b hb o e=>(I8.pin (b,o) (List.mem_append_right _ (List.mem_append_right _ (Yl hb e)))).1,fun b hb=>by
     obtain⟨o,e,d⟩:=T.obj _ _ st5 b hb
     exact(I8.pin (b,o) (List.mem_append_right _ (List.mem_append_right _ (Yl hb e)))).2.1⟩
   cases ok with
   |false=>
    rw[if_neg Bool.false_ne_true]at q7⊢
    obtain⟨m',hm,w7⟩:=hNN _ _ _ q7
    exact⟨m',hm,i+1,ys,its,k,σ6,H7,I7.unpinned,rv,(back I7).1,(back I7).2,w7⟩
   |true=>
    rw[if_pos rfl]at q7⊢
    refine thn (he _ _ _ _ _ s7 σ6 H7 _ I7 q7) fun y s8⟨v8,H8,I8,r8,q8⟩=>?_
    obtain⟨m',hm,w8⟩:=hNN _ _ _ q8
    have pD8:=I8.pin _ (List.mem_append_right _ (List.mem_append_left _ (.head _)))
    have hl:=rv.length
    refine wpAny_list_append_plain ⟨k,pD8.1⟩ (fun h9 pl9 sb9=>?_) (by rw[List.size_toArray];omega)
    obtain⟨k9,e9⟩:=pl9
    have e9':h9.get? s2.heap.objs.size=some {cls:= .type "list",data:= .seq (List.toArray (its++[y])) k9}:=by rw[e9];simp
    have I8':Inv (Z7 X scope cl G.objs.size N fp s2 H2) (Yn fp s5.heap) σ6 H8 s8:=I8.pins_of fun p hp=>I8.pin p (List.mem_append_right _ (List.mem_append_right _ hp))
    have I9:Inv (Z7 X scope cl G.objs.size N fp s2 H2) (Yn fp s5.heap) σ6 H8 {s8 with heap:=h9}:=I8'.turned (it:=s2.heap.objs.size) (t':=s8.toks) (fun b o hb e=>sb9.extBut b o hb e) pD8.2.1 pD8.2.2.1 (.inr (Nat.le_refl _))
     (fun x c e z=>by
      obtain⟨vc,oc,hoc,hd⟩:=I8.cell x c e
      rw[z,pD8.1]at hoc
      cases hoc
      cases hd)
     fun p hp z=>by
      have hp':p∈Yn fp s5.heap:=by simpa[Z7]using hp
      obtain⟨q1,q2⟩:=J8 hp'
      obtain⟨ob,eb,_⟩:=T.obj _ _ st2 p.1 q1
      exact Nat.lt_irrefl _ (by have:=Heap.lt_size eb;rw[z]at this;exact this)
    have hk9:∀b∈fp,∀o,s8.heap.get? b=some o->h9.get? b=some o:=fun b hb o e=>sb9.extBut b o (fun z=>by
     obtain⟨ob,eb,_⟩:=T.obj _ _ st2 b hb
     exact Nat.lt_irrefl _ (by have:=Heap.lt_size eb;rw[z]at this;exact this)) e
    refine⟨m',hm,i+1,ys++[v8],its++[y],k9,σ6,H8,I9.pins_of fun p hp=>?_,rv.append (.cons r8 .nil),T.keep _ _ _ (back I8).1 hk9,(back I8).2,w8⟩
    have e:p=(s2.heap.objs.size,{cls:= .type "list",data:= .seq (List.toArray (its++[y])) k9}):=by simpa using hp
    subst e
    exact⟨e9',pD8.2.1,pD8.2.2.1,pD8.2.2.2.1,fun v z=>nomatch z⟩
 exact codeAny_compStart_list (loop _ rfl) (T.self _ 0 _ _ _ (T.keep _ _ _ st2 fun b _ o e=>old b o e) (loop _ rfl))
theorem Zii{X:Cx}{scope:Scope}{cl:List (Str×Addr)}{N:List Str}{bs:List (Option Nat)}{tg a elt:Expr}{ifs:List Expr}{p pos' pos spos px:Pos}{x:Str}{ta:TA}{g gt:TG}{tt:TT}{te:TE}(B:Blk X scope cl N bs)(hc:X.calm=true)
  (hgl:Gl X "range")(hmr:X.mg "range"=none)(ha:PA X [a] ta)(hm:ZaB ta)(hpl:Yw a=true)(hg:∀C fp s H,PG (Z7 X scope cl C N fp s H) tg g) (ht:∀C fp s H,PTs (Z7 X scope cl C N fp s H) ifs tt) (he:∀C fp s H,PE (Z7 X scope cl C N fp s H) elt te)
  (hgt:PG X (.Name x px) gt) (hsw:swapsWith (.ListComp elt [⟨tg,.Call (.Name "range" p) [a] [] pos',ifs,0⟩] scope pos) (some (.Name x px)) spos.line X.env=pure true)
  (hs:∀x,foldedSetIterable (.Call (.Name "range" p) [a] [] pos') X.env x=pure x:=by intro _;rfl):PS X (.Assign [.Name x px] (.ListComp elt [⟨tg,.Call (.Name "range" p) [a] [] pos',ifs,0⟩] scope pos) spos) (Zdo (ZhR bs ta g tt te) gt):=by
 intro pins s σ H D I h
 refine @Zjq X scope cl N bs tg _ elt ifs pos spos px x (ZcR ta) g gt tt te B hc (@ZM X tg a ta p pos' hgl hmr ha (Yt hpl)) hg ht he hgt hsw hs pins s σ H D I ?_
 refine hm σ H _ _ (fun vs H1 h=>?_) h
 obtain⟨n,e,hz,Pv,p0,pl,ps,pd⟩:=h
 refine⟨(n:Int),e,by omega,by omega,?_⟩
 rw[Int.toNat_natCast]
 exact Zbk (Q:=fun x H1=>gt x σ H1 D.nx) Pv (Yq hz) p0 pl ps fun ys σ H hp p hpn=>pd ys σ H hp p _ (ZI hpn) Zf
section
variable{X:Cx}
theorem ZfD:OpR X (binaryOp .FloorDiv) (rI (fun _ j=>0<j/\j<4611686018427387904) fun i j=> .int (i/j)):=opI fun i j _ _ _ _ _ hc q=>by
 have h1:(0:Int)<j:=hc.1
 have h2:j<4611686018427387904:=hc.2
 refine floordiv_int (by omega) (by rw[Int.fdiv_eq_ediv_of_nonneg i (by omega)];exact q) (.inl (PyProof.noPylong_of_log2 ?_))
 have h3:j.natAbs<2^62:=by omega
 have h4:j.natAbs≠0:=by omega
 exact Nat.lt_trans ((Nat.log2_lt h4).mpr h3) (by decide)
end
end L2
namespace SetI
open PySem PySem.Spec PyProof.Rows
section
variable{prog:Program}{w:World}{A:Around}{E:Value->Shared->Prop}{s:Shared}
theorem call_set_tupI{l:Addr}{items:Array Value}{ns:List Int}{Q:Value->Shared->Prop}
  (hh:A.handled=none)(hl:s.heap.IsTuple l items)(hi:PyProof.Rows.IntsAre items.toList ns)(hb:items.size+1<scanBound)
  (h:∀(h':Heap)(tk:Nat),h'.SetOf (intKind prog w) s.heap.objs.size (fun k'=>(PyProof.Rows.firstMet (fun i=>ns.getD i 0) items.size).any (·==k')) (PyProof.Rows.firstMet (fun i=>ns.getD i 0) items.size).length->
   (∀b o,b<s.heap.objs.size->s.heap.get? b=some o->h'.get? b=some o)->Q (.ref s.heap.objs.size) {s with heap:=h',toks:=tk}):
  wpAny (model prog w) A (call (.type "set") [.ref l]) Q E s:=by
 obtain⟨c,tl,hmro⟩:=F.called_set.mro
 have hmade:=F.called_set.made
 have hsub:=F.called_set.sub
 refine wpAny_call (codeAny_of_tree ?_)
 show wpAny _ _ (callAny (.type "set") _) _ _ _
 refine wpAny_pure ⟨Code.quiet_builtin _ (by decide+kernel),codeAny_builtin F.entry_type_call ?_⟩
 rw[Around.under_plain (weight_type_call_type "set" [.ref l] []) rfl]
 have h1:=F.called_set.notType
 have h2:=F.called_set.canCreate
 have hct:=F.typeCall_set_1 (.ref l)
 repeat (any_goals (first|assumption|wp_step))
 refine codeAny_mono (code_set_new_1 (.ref l) (E:=E) (Q₁:=fun obj s₁=>∃led:Bool,obj= .ref s.heap.objs.size/\s₁={s with heap:=s.heap.push {cls:= .type "set",dict:=none,data:= .set #[] 0 (.fresh 0 0 led)}}) fun led=>⟨led,rfl,rfl⟩) fun r s₁ hr=>?_
 cases r with
 |error e=>exact hr
 |ok fl=>
  cases fl with
  |ret obj=>
   obtain⟨led,rfl,rfl⟩:=hr
   have hS:(s.heap.push {cls:= .type "set",dict:=none,data:= .set #[] 0 (.fresh 0 0 led)}).get? s.heap.objs.size=some {cls:= .type "set",dict:=none,data:= .set #[] 0 (.fresh 0 0 led)}:=Heap.get?_push_size _ rfl
   have hT:Shared.TypeIs {s with heap:=s.heap.push {cls:= .type "set",dict:=none,data:= .set #[] 0 (.fresh 0 0 led)}} (.ref s.heap.objs.size) "set":=⟨_,hS,rfl⟩
   have hli:=F.called_set.init.lookup
   have hbi:=F.called_set.init.bind (.ref s.heap.objs.size)
   repeat (any_goals (first|assumption|wp_step))
   refine codeAny_mono (codeAny_call_builtin (R:=wants (fun r s₂=>r= .none/\∃h' tk,s₂={s with heap:=h',toks:=tk}/\
     h'.SetOf (intKind prog w) s.heap.objs.size (fun k'=>(PyProof.Rows.firstMet (fun i=>ns.getD i 0) items.size).any (·==k')) (PyProof.Rows.firstMet (fun i=>ns.getD i 0) items.size).length/\
     (∀b o,b<s.heap.objs.size->s.heap.get? b=some o->h'.get? b=some o)) E) F.called_set.init.plain F.entry_set_init (check_set_init_1 hT ?_)) fun r₂ s₂ hr₂=>?_
   ·obtain⟨ol,hol,hcl,nl,hdl⟩:=hl
    obtain⟨ocls,odict,odata,oslots⟩:=ol
    simp only at hcl hdl
    subst hcl;subst hdl
    have hol':(s.heap.push {cls:= .type "set",dict:=none,data:= .set #[] 0 (.fresh 0 0 led)}).get? l=some {cls:= .type "tuple",dict:=odict,data:= .seq items nl,slots:=oslots}:=Heap.get?_push_of_some _ hol
    have hsls:=F.sub_tuple_set
    have hslf:=F.sub_tuple_frozenset
    have hne:(Value.type "tuple"==Value.type "dict")=false:=by decide
    have hl1:(s.heap.push {cls:= .type "set",dict:=none,data:= .set #[] 0 (.fresh 0 0 led)}).IsTuple l items:=⟨_,hol',rfl,nl,rfl⟩
    unfold Builtin.«set.__init__» noKeywords Builtin.Frozenset.updateFrom
    generalize hPI:pyIter=PI
    wp_walk
    subst hPI
    refine wpAny_pyIter_tuple hl1 ?_
    refine wpAny_bind (wpAny_runValue ?_)
    have hlS:l<s.heap.objs.size:=Heap.lt_size hol
    have hh3:A.in1.in1.in1.handled=none:=by simp[hh]
    have hneI:l≠(s.heap.push {cls:= .type "set",dict:=none,data:= .set #[] 0 (.fresh 0 0 led)}).objs.size:=by
     rw[Heap.size_push];exact Nat.ne_of_lt (Nat.lt_succ_of_lt hlS)
    have hSf:s.heap.objs.size ∉ [(s.heap.push {cls:= .type "set",dict:=none,data:= .set #[] 0 (.fresh 0 0 led)}).objs.size,l]:=by
     rw[Heap.size_push];simp only[List.mem_cons,List.mem_singleton,List.not_mem_nil,or_false,not_or]
     exact⟨Nat.ne_of_lt (Nat.lt_succ_self _),Nat.ne_of_gt hlS⟩
    have hval:∀(i:Nat)(v:Value),items[i]?=some v->∃t,v= .int ((fun i=>ns.getD i 0) i) t:=fun i v hv=>
     PyProof.Rows.IntsAre.int_at hi i v (by rw[Array.getElem?_toList];exact hv)
    refine PyProof.Rows.codeAny_set_update_loopS ((Walks.tuple hh3 _ l hneI items).toS) s.heap.objs.size
     hSf (fun i=>ns.getD i 0) hval hb (items.size-0) 0 _ (by omega) (Nat.zero_le _)
     ⟨⟨_,Heap.get?_push_size _ rfl,rfl,rfl⟩,(hl1.at fun o e=>Heap.get?_push_of_some _ e)⟩ ?hS0 ?hR
    case hS0=>
     have hget:((s.heap.push {cls:= .type "set",dict:=none,data:= .set #[] 0 (.fresh 0 0 led)}).push {cls:= .type "tuple_iterator",data:= .fields #[.ref l,.int 0 0]}).get? s.heap.objs.size
       =some {cls:= .type "set",dict:=none,data:= .set #[] 0 (.fresh 0 0 led)}:=Heap.get?_push_of_some _ hS
     exact PyProof.Rows.SetOf_congr ((PyProof.Rows.setObjOf_fresh (knd:=intKind prog w) led).setOf hget (by unfold scanBound;omega)) (fun _=>rfl) rfl
    case hR=>
     intro s' hm hS'
     obtain⟨h',g',d',tk',os'⟩:=s'
     have eg:g'=s.gens:=hm.gens
     have ed:d'=s.drawn:=hm.drawn
     have eo:os'=s.os:=hm.os
     subst eg;subst ed;subst eo
     show wpAny _ _ _ _ _ _
     refine wpAny_pure ?_
     show wpAny _ _ (ret Value.none) _ _ _
     refine wpAny_pure ⟨rfl,h',tk',rfl,hS',fun b o hb e=>?_⟩
     have hb1:b≠s.heap.objs.size:=Nat.ne_of_lt hb
     have hb2:b≠(s.heap.push {cls:= .type "set",dict:=none,data:= .set #[] 0 (.fresh 0 0 led)}).objs.size:=by
      rw[Heap.size_push];exact Nat.ne_of_lt (Nat.lt_succ_of_lt hb)
     exact hm.heap b o (by simp only[List.mem_cons,List.mem_singleton,List.not_mem_nil,or_false,not_or];exact⟨hb1,hb2⟩) (Heap.get?_push_of_some _ (Heap.get?_push_of_some _ e))
   ·cases r₂ with
    |error e=>exact hr₂
    |ok fl₂=>
     cases fl₂ with
     |ret r=>
      obtain⟨rfl,h',tk,rfl,hS',hk'⟩:=hr₂
      repeat (any_goals (first|assumption|wp_step))
      exact h _ _ hS' hk'
     |_=>exact hr₂.elim
  |_=>exact hr.elim
end
end SetI
namespace L2
open PySem PySem.Spec PyProof.Rows
theorem Zb9:∀(ns:List Int),ns.Nodup->(firstMet (fun i=>ns.getD i 0) ns.length).length=ns.length:=by
 intro ns nd
 have key:∀i,i<=ns.length->firstMet (fun i=>ns.getD i 0) i=ns.take i:=by
  intro i
  induction i with
  |zero=>intro _;rfl
  |succ i ih=>
   intro hi
   rw[firstMet_succ,ih (by omega)]
   unfold step_dedup
   have hg:ns.getD i 0=ns[i]:=by rw[List.getD_eq_getElem?_getD,List.getElem?_eq_getElem (by omega)];rfl
   rw[hg]
   have hno:¬((ns.take i).any (·==ns[i])=true):=by
    intro h
    rw[List.any_eq_true]at h
    obtain⟨x,hx,e⟩:=h
    have e':x=ns[i]:=by simpa using e
    obtain⟨j,hj,ej⟩:=List.getElem_of_mem hx
    rw[List.length_take]at hj
    rw[List.getElem_take]at ej
    have:=(List.getElem_inj (h₀:=by omega) (h₁:=by omega) nd).mp (ej.trans e')
    omega
   rw[if_neg hno,List.take_add_one,List.getElem?_eq_getElem (by omega)]
   rfl
 rw[key _ (Nat.le_refl _),List.take_length]
section
variable{X:Cx}
theorem Zel{ns:List Int}:∀{us:List Value},Vals (ns.map V.int) us->IntsAre us ns:=by
 induction ns with
 |nil=>intro us r;cases r;exact .nil
 |cons k ks ih=>
  intro us r
  cases r with
  |cons h t=>
   obtain⟨tk,rfl⟩:=h
   exact .cons _ _ (ih t)
def Zjk(K:PySem.W.Frag):List V->Hp->VK->Prop:=fun xs H Q=>∃p,∃ns:List Int,xs=[.ref p]/\SqT K H p (ns.map V.int)/\ns.length<=1000/\∀q S H',Same H H'->H' q=some (.set S (firstMet (fun i=>ns.getD i 0) ns.length).length)->Q (.ref q) H'
theorem ZeT{k:Nat}(hr:Room k X.A):CallR X (.type "set") (Zjk X.K):=by
 intro pins s σ H xs us Q I r h
 obtain⟨p,ns,rfl,hp,h1000,q⟩:=h
 obtain⟨u,rfl,rx⟩:=vals1 r
 cases(show u=Value.ref p from rx)
 obtain⟨its,rv,pl,hz⟩:=I.tuple hp
 have hvl:=rv.length
 rw[List.length_map]at hvl
 refine SetI.call_set_tupI (ns:=ns) hr.hd pl (by simpa using Zel rv) (by rw[List.size_toArray,<-hvl];unfold scanBound;omega) fun h' tk hS kp=>?_
 have esz:its.toArray.size=ns.length:=by rw[List.size_toArray];omega
 rw[esz]at hS
 have kp':∀b o,s.heap.get? b=some o->h'.get? b=some o:=fun b o e=>kp b o (Heap.lt_size e) e
 refine⟨.ref s.heap.objs.size,_,I.laid (t':=tk) (o:= .set (fun k'=>(firstMet (fun i=>ns.getD i 0) ns.length).any (·==k')) (firstMet (fun i=>ns.getD i 0) ns.length).length) kp' (Nat.le_refl _) ?_,rfl,q _ (fun k'=>(firstMet (fun i=>ns.getD i 0) ns.length).any (·==k')) _ (ZI (I.hok.fresh (Nat.le_refl _))) Zf⟩
 exact hS
def rLenI:List V->Hp->VK->Prop:=fun xs H Q=>∃q S n,xs=[.ref q]/\H q=some (.set S n)/\n<=100000/\Q (.int n) H
theorem ZeW:CallR X (.builtin "len") rLenI:=by
 intro pins s σ H xs us Q I r h
 obtain⟨p,S,n,rfl,hp,hn,q⟩:=h
 obtain⟨u,rfl,rx⟩:=vals1 r
 cases(show u=Value.ref p from rx)
 obtain⟨o,es,ep,t,ho,hex,hd,_,_,_,hf,he⟩:s.heap.SetOf (intKind X.prog X.w) p S n:=(I.hok p _ hp)
 refine call_len_set ho hex hd hf (by omega) ⟨.int n,H,I.tok _,⟨_,by rw[he]⟩,q⟩
end
end L2
namespace L2
open PySem PySem.Spec PyProof.Rows PySem.SeqAt
def Atom:V->Prop
 | .non=>True
 | .bl _=>True
 | .int _=>True
 | .str _=>True
 |_=>False
def Sam(K:PySem.W.Frag)(H:Hp):Nat->V->V->Prop
 |0,x,y=>x=y/\Atom x
 |d+1,x,y=>(x=y/\Atom x)\/∃a b xs ys,x= .ref a/\y= .ref b/\((SqT K H a xs/\SqT K H b ys)\/(SqL K H a xs/\SqL K H b ys))/\xs.length=ys.length/\∀(i:Nat) u v,xs[i]?=some u->ys[i]?=some v->Sam K H d u v
section
variable{X:Cx}
theorem Zez{A:Around}{s:Shared}{x:V}{u v:Value}(h:Atom x)(ru:RelV x u)(rv:RelV x v):EqAt A s u v true:=by
 cases x with
 |non=>cases(show u=Value.none from ru);cases(show v=Value.none from rv);exact EqAt.same _
 |bl b=>cases(show u=Value.bool b from ru);cases(show v=Value.bool b from rv);exact EqAt.same _
 |int i=>
  obtain⟨t,rfl⟩:=ru
  obtain⟨t',rfl⟩:=rv
  have e:=EqAt.int_int (A:=A) (s:=s) i t i t'
  rw[beq_self_eq_true]at e
  exact e
 |str i=>
  obtain⟨t,rfl⟩:=ru
  obtain⟨t',rfl⟩:=rv
  have e:=(eqGives_str i i t t').at A s
  rw[beq_self_eq_true]at e
  exact e
 |_=>exact h.elim
theorem all_true(n:Nat):(List.range n).all (fun _=>true)=true:=by simp
theorem Zdt{pins:List (Addr×Obj)}{σ:St}{H:Hp}{s:Shared}(I:Inv X pins σ H s):∀(d:Nat)(A:Around)(x y:V)(u v:Value),A.units+d<cLine->Sam X.K H d x y->RelV x u->RelV y v->EqAt A s u v true
 |0,A,x,y,u,v,hu,h,ru,rv=>by
  obtain⟨rfl,h⟩:=h
  exact Zez h ru rv
 |d+1,A,x,y,u,v,hu,h,ru,rv=>by
  rcases h with⟨rfl,h⟩|⟨a,b,xs,ys,rfl,rfl,h,hl,hk⟩
  ·exact Zez h ru rv
  cases(show u=Value.ref a from ru)
  cases(show v=Value.ref b from rv)
  by_cases hab:a=b
  ·subst hab
   exact EqAt.same _
  refine EqAt.of_refs hab ?_
  rcases h with⟨ha,hb⟩|⟨ha,hb⟩
  ·obtain⟨vs,rvs,pa,_⟩:=I.tuple ha
   obtain⟨ws,rws,pb,_⟩:=I.tuple hb
   have l1:=rvs.length
   have l2:=rws.length
   have e:=RcAt.tuples (A:=A) (s:=s) (e:=fun _=>true) pa pb (by omega) (fun j h1 h2=>?_)
   ·rw[all_true]at e
    have:(vs.toArray.size==ws.toArray.size)=true:=by simp;omega
    rw[this]at e
    exact e
   ·simp only[List.size_toArray]at h1 h2
    obtain⟨x1,e1,r1⟩:=rvs.get (List.getElem?_eq_getElem (l:=xs) (i:=j) (by omega))
    obtain⟨y1,e2,r2⟩:=rws.get (List.getElem?_eq_getElem (l:=ys) (i:=j) (by omega))
    have g1:vs[j]=x1:=by rw[List.getElem?_eq_getElem h1]at e1;exact Option.some.inj e1
    have g2:ws[j]=y1:=by rw[List.getElem?_eq_getElem h2]at e2;exact Option.some.inj e2
    have g:=Zdt I d A.in1 _ _ x1 y1 (by show A.units+1+d<cLine;omega) (hk j _ _ (List.getElem?_eq_getElem (by omega)) (List.getElem?_eq_getElem (by omega))) r1 r2
    simp only[List.getElem_toArray,g1,g2]
    exact g
  ·obtain⟨vs,rvs,pa,_⟩:=I.list ha
   obtain⟨ws,rws,pb,_⟩:=I.list hb
   have l1:=rvs.length
   have l2:=rws.length
   have e:=RcAt.lists (A:=A) (s:=s) (e:=fun _=>true) pa.isList pb.isList (by simp;omega) (by omega) (fun j h1 h2=>?_)
   ·rw[all_true]at e
    exact e
   ·simp only[List.size_toArray]at h1 h2
    obtain⟨x1,e1,r1⟩:=rvs.get (List.getElem?_eq_getElem (l:=xs) (i:=j) (by omega))
    obtain⟨y1,e2,r2⟩:=rws.get (List.getElem?_eq_getElem (l:=ys) (i:=j) (by omega))
    have g1:vs[j]=x1:=by rw[List.getElem?_eq_getElem h1]at e1;exact Option.some.inj e1
    have g2:ws[j]=y1:=by rw[List.getElem?_eq_getElem h2]at e2;exact Option.some.inj e2
    have g:=Zdt I d A.in1 _ _ x1 y1 (by show A.units+1+d<cLine;omega) (hk j _ _ (List.getElem?_eq_getElem (by omega)) (List.getElem?_eq_getElem (by omega))) r1 r2
    simp only[List.getElem_toArray,g1,g2]
    exact g
end
end L2
namespace L2
open PySem PySem.Spec PyProof.Rows
section
variable{κ:Type}[DecidableEq κ]
def ZX(kvs:List (κ×V))(k:κ):Option V:=(kvs.find? fun kv=>decide (kv.1=k)).map (·.2)
def putK(kvs:List (κ×V))(k:κ)(v:V):List (κ×V):=
 if(kvs.any fun kv=>decide (kv.1=k))=true then kvs.map (fun kv=>if kv.1=k then(kv.1,v)else kv)else kvs++[(k,v)]
def YN(kvs:List (κ×V))(k:κ):List (κ×V):=kvs.filter fun kv=>decide (kv.1≠k)
theorem Yf{p:κ×V}{r:List (κ×V)}{k:κ}(e:p.1=k):ZX (p::r) k=some p.2:=by simp[ZX,List.find?_cons,e]
theorem Yg{p:κ×V}{r:List (κ×V)}{k:κ}(e:¬p.1=k):ZX (p::r) k=ZX r k:=by simp[ZX,List.find?_cons,e]
theorem YH(k:κ):∀kvs:List (κ×V),(kvs.any fun kv=>decide (kv.1=k))=(ZX kvs k).isSome
 |[]=>rfl
 |p::r=>by
  rw[List.any_cons]
  by_cases e:p.1=k
  ·simp only[Yf e,decide_eq_true e,Bool.true_or,Option.isSome_some]
  ·rw[Yg e,decide_eq_false e,Bool.false_or];exact YH k r
theorem Zc4(k j:κ)(y:V):∀kvs:List (κ×V),ZX (kvs.map fun kv=>if kv.1=k then(kv.1,y)else kv) j=(ZX kvs j).map fun x=>if j=k then y else x
 |[]=>rfl
 |p::r=>by
  have ih:=Zc4 k j y r
  rw[List.map_cons]
  by_cases h:p.1=k
  ·rw[if_pos h]
   by_cases e:p.1=j
   ·rw[Yf (p:=(p.1,y)) e,Yf e,Option.map_some,if_pos (e.symm.trans h)]
   ·rw[Yg (p:=(p.1,y)) e,Yg e,ih]
  ·rw[if_neg h]
   by_cases e:p.1=j
   ·rw[Yf (p:=p) e,Yf e,Option.map_some,if_neg (fun z=>h (e.trans z))]
   ·rw[Yg (p:=p) e,Yg e,ih]
theorem ZbD(k j:κ)(y:V):∀kvs:List (κ×V),ZX kvs k=none->ZX (kvs++[(k,y)]) j=if j=k then some y else ZX kvs j
 |[],_=>by
  by_cases e:k=j
  ·rw[if_pos e.symm];exact Yf (p:=(k,y)) e
  ·rw[if_neg (fun z=>e z.symm)];exact Yg (p:=(k,y)) e
 |p::r,hn=>by
  rw[List.cons_append]
  have hk:¬p.1=k:=fun z=>by rw[Yf z]at hn;cases hn
  rw[Yg hk]at hn
  have ih:=ZbD k j y r hn
  by_cases e:p.1=j
  ·rw[Yf e,Yf e,if_neg (fun z=>hk (e.trans z))]
  ·rw[Yg e,Yg e,ih]
theorem ZaQ(kvs:List (κ×V))(k j:κ)(y:V):ZX (putK kvs k y) j=if j=k then some y else ZX kvs j:=by
 unfold putK
 by_cases a:(kvs.any fun kv=>decide (kv.1=k))=true
 ·rw[if_pos a,Zc4]
  rw[YH]at a
  by_cases e:j=k
  ·obtain⟨x,hx⟩:=Option.isSome_iff_exists.mp a
   rw[if_pos e,e,hx,Option.map_some,if_pos rfl]
  ·rw[if_neg e]
   cases ZX kvs j with
   |none=>rfl
   |some x=>rw[Option.map_some,if_neg e]
 ·rw[if_neg a]
  refine ZbD k j y kvs ?_
  rw[YH]at a
  cases q:ZX kvs k with
  |none=>rfl
  |some x=>rw[q]at a;exact(a rfl).elim
theorem YL(kvs:List (κ×V))(k:κ)(v:V):(putK kvs k v).length<=kvs.length+1:=by
 unfold putK
 split
 ·rw[List.length_map];omega
 ·rw[List.length_append,List.length_cons,List.length_nil];omega
theorem ZcD{kvs:List (κ×V)}{k:κ}(v:V)(h:ZX kvs k=none):putK kvs k v=kvs++[(k,v)]:=by
 unfold putK
 rw[YH,h]
 exact if_neg (by decide)
theorem RelO.isSome_eq{o:Option V}{u:Option Value}(r:RelO o u):o.isSome=u.isSome:=by
 cases o with
 |none=>cases u with
  |none=>rfl
  |some _=>exact(show False from r).elim
 |some _=>cases u with
  |none=>exact(show False from r).elim
  |some _=>rfl
theorem RelO.getD{o:Option V}{u:Option Value}{d:V}{d':Value}(r:RelO o u)(rd:RelV d d'):RelV (o.getD d) (u.getD d'):=by
 cases o with
 |none=>cases u with
  |none=>exact rd
  |some _=>exact(show False from r).elim
 |some _=>cases u with
  |none=>exact(show False from r).elim
  |some _=>exact r
theorem KV.val{kvs:List (κ×V)}{vs:List (κ×Value)}(r:KV kvs vs)(k:κ):RelO (ZX kvs k) (valueAt vs k):=by
 unfold KV at r
 induction r with
 |nil=>exact True.intro
 |@cons p q ps qs h t ih=>
  obtain⟨h1,h2⟩:=h
  by_cases e:p.1=k
  ·have e':q.1=k:=h1.symm.trans e
   have b:valueAt (q::qs) k=some q.2:=by simp[valueAt,List.find?_cons,e']
   rw[Yf e,b];exact h2
  ·have e':¬q.1=k:=fun z=>e (h1.trans z)
   have b:valueAt (q::qs) k=valueAt qs k:=by simp[valueAt,List.find?_cons,e']
   rw[Yg e,b];exact ih
theorem KV.any{kvs:List (κ×V)}{vs:List (κ×Value)}(r:KV kvs vs)(k:κ):(kvs.any fun kv=>decide (kv.1=k))=vs.any fun kv=>decide (kv.1=k):=by
 unfold KV at r
 induction r with
 |nil=>rfl
 |cons h t ih=>rw[List.any_cons,List.any_cons,ih,h.1]
theorem KV.repl{kvs:List (κ×V)}{vs:List (κ×Value)}(r:KV kvs vs)(k:κ){y:V}{u:Value}(ry:RelV y u):
  KV (kvs.map fun kv=>if kv.1=k then(kv.1,y)else kv) (vs.map fun kv=>if kv.1=k then(kv.1,u)else kv):=by
 unfold KV at r⊢
 induction r with
 |nil=>exact .nil
 |@cons p q ps qs h t ih=>
  rw[List.map_cons,List.map_cons]
  refine .cons ?_ ih
  obtain⟨h1,h2⟩:=h
  by_cases e:p.1=k
  ·rw[if_pos e,if_pos (h1.symm.trans e)];exact⟨h1,ry⟩
  ·rw[if_neg e,if_neg (fun z=>e (h1.trans z))];exact⟨h1,h2⟩
theorem KV.put{kvs:List (κ×V)}{vs:List (κ×Value)}(r:KV kvs vs)(k:κ){y:V}{u:Value}(ry:RelV y u):KV (putK kvs k y) (stored vs k u):=by
 unfold putK stored
 rw[r.any k]
 by_cases e:(vs.any fun kv=>decide (kv.1=k))=true
 ·rw[if_pos e,if_pos e];exact r.repl k ry
 ·rw[if_neg e,if_neg e];exact Paired.snoc r ⟨rfl,ry⟩
theorem KV.drop{kvs:List (κ×V)}{vs:List (κ×Value)}(r:KV kvs vs)(k:κ):KV (YN kvs k) (without vs k):=by
 unfold KV at r⊢
 unfold YN without
 induction r with
 |nil=>exact .nil
 |@cons p q ps qs h t ih=>
  obtain⟨h1,h2⟩:=h
  rw[List.filter_cons,List.filter_cons]
  by_cases e:p.1=k
  ·have a:¬decide (p.1≠k)=true:=by simp[e]
   have b:¬decide (q.1≠k)=true:=by simp[h1.symm.trans e]
   rw[if_neg a,if_neg b];exact ih
  ·have e':¬q.1=k:=fun z=>e (h1.trans z)
   have a:decide (p.1≠k)=true:=by simp[e]
   have b:decide (q.1≠k)=true:=by simp[e']
   rw[if_pos a,if_pos b];exact .cons ⟨h1,h2⟩ ih
theorem KV.keys{kvs:List (κ×V)}{vs:List (κ×Value)}(r:KV kvs vs):kvs.map (·.1)=vs.map (·.1):=by
 unfold KV at r
 induction r with
 |nil=>rfl
 |cons h t ih=>rw[List.map_cons,List.map_cons,ih,h.1]
theorem KV.length{kvs:List (κ×V)}{vs:List (κ×Value)}(r:KV kvs vs):kvs.length=vs.length:=Paired.length r
theorem ZcX(kvs:List (κ×V))(k:κ):(YN kvs k).length<=kvs.length:=List.length_filter_le _ _
end
theorem Zaa{P:Program}{w:World}{k:Key}{u:Value}(r:RelV (kV k) u):(Z6 P w).is k u=true:=by
 cases k with
 |inl i=>obtain⟨t,e⟩:=(show∃t,u=Value.int i t from r);subst e;exact ZcM P w i t
 |inr x=>obtain⟨t,e⟩:=(show∃t,u=Value.str x t from r);subst e;exact ZcL P w x t
theorem ZbK{P:Program}{w:World}:∀{ks:List Key}{us:List Value},Vals (ks.map kV) us->ItemsAre (Z6 P w) ks us
 |[],_,r=>by rw[List.map_nil]at r;cases r;exact .nil
 |k::ks,_,r=>by
  rw[List.map_cons]at r
  cases r with
  |cons h t=>exact .cons (Zaa h) (ZbK t)
abbrev KT(H:Hp):List (List Key×V)->List (List Key×Addr×Value)->Prop:=Paired fun p q=>p.1=q.1/\H q.2.1=some (.tup (p.1.map kV))/\RelV p.2 q.2.2
theorem KT.val{H:Hp}{kvs:List (List Key×V)}{xs:List (List Key×Addr×Value)}(r:KT H kvs xs)(k:List Key):RelO (ZX kvs k) ((atKey xs k).map (·.2)):=by
 induction r with
 |nil=>exact True.intro
 |@cons p q ps qs h t ih=>
  obtain⟨h1,_,h2⟩:=h
  by_cases e:p.1=k
  ·have e':q.1=k:=h1.symm.trans e
   have b:atKey (q::qs) k=some q.2:=by simp[atKey,List.find?_cons,e']
   rw[Yf e,b];exact h2
  ·have e':¬q.1=k:=fun z=>e (h1.trans z)
   have b:atKey (q::qs) k=atKey qs k:=by simp[atKey,List.find?_cons,e']
   rw[Yg e,b];exact ih
theorem KT.repl{H:Hp}{kvs:List (List Key×V)}{xs:List (List Key×Addr×Value)}(r:KT H kvs xs)(k:List Key){y:V}{u:Value}(ry:RelV y u):
  KT H (kvs.map fun kv=>if kv.1=k then(kv.1,y)else kv) (xs.map (putAt k u)):=by
 induction r with
 |nil=>exact .nil
 |@cons p q ps qs h t ih=>
  rw[List.map_cons,List.map_cons]
  refine .cons ?_ ih
  obtain⟨h1,h2,h3⟩:=h
  unfold putAt
  by_cases e:p.1=k
  ·rw[if_pos e,if_pos (h1.symm.trans e)];exact⟨h1,h2,ry⟩
  ·rw[if_neg e,if_neg (fun z=>e (h1.trans z))];exact⟨h1,h2,h3⟩
theorem KT.put{H:Hp}{kvs:List (List Key×V)}{xs:List (List Key×Addr×Value)}(r:KT H kvs xs)(k:List Key){b:Addr}{y:V}{u:Value}(hb:H b=some (.tup (k.map kV)))(ry:RelV y u):
  KT H (putK kvs k y) (storedH xs k b u):=by
 have e:(kvs.any fun kv=>decide (kv.1=k))=(atKey xs k).isSome:=by
  rw[YH,(r.val k).isSome_eq,Option.isSome_map]
 unfold putK storedH
 rw[e]
 by_cases q:(atKey xs k).isSome=true
 ·rw[if_pos q,if_pos q];exact r.repl k ry
 ·rw[if_neg q,if_neg q];exact Paired.snoc r ⟨rfl,hb,ry⟩
theorem KT.keeps{H H':Hp}{kvs:List (List Key×V)}{xs:List (List Key×Addr×Value)}(r:KT H kvs xs)(ht:∀b ys,H b=some (.tup ys)->H' b=some (.tup ys)):KT H' kvs xs:=
 Paired.mapP r fun _ _ z=>⟨z.1,ht _ _ z.2.1,z.2.2⟩
section
variable{P:Program}{w:World}{H:Hp}{h:Heap}{a:Addr}
theorem Zh6{u:HO}(ok:HOk P w H h)(e:Rd H a u):ObjOk P w H h a u:=e.ok ok
theorem Zag{kvs:List (Key×V)}(ok:HOk P w H h)(e:Rd H a (.dK kvs)):kvs.length<=sizeLine/\(a==sysModules)=false/\∃vs,KV kvs vs/\h.DictOf (Z6 P w) a vs:=
 show ObjOk P w H h a (.dK kvs)from Zh6 ok e
theorem Zeo{kvs:List (Key×V)}(ok:HOk P w H h)(e:H a=some (.dK kvs)):kvs.length<=sizeLine/\(a==sysModules)=false/\∃vs,KV kvs vs/\h.DictOf (Z6 P w) a vs:=Zag ok (.inl e)
theorem Za0{ks:List Key}(ok:HOk P w H h)(e:H a=some (.tup (ks.map kV))):(tupleKind (Z6 P w)).is h ks a:=by
 obtain⟨_,its,r,o,h1,h2,n,h3⟩:=(show ObjOk P w H h a (.tup (ks.map kV))from ok a _ e)
 exact⟨o,its.toArray,n,h1,h2,h3,by simpa using ZbK r⟩
theorem Zbu{kvs:List (List Key×V)}(ok:HOk P w H h)(e:Rd H a (.dT kvs)):kvs.length<=sizeLine/\(a==sysModules)=false/\
  ∃xs,KT H kvs xs/\h.DictOfH (tupleKind (Z6 P w)) a xs:=by
 obtain⟨z,y,xs,r,o,es,ep,h1,h2,h3,h4,h5⟩:=(show ObjOk P w H h a (.dT kvs)from Zh6 ok e)
 refine⟨z,y,xs,r,o,es,ep,h1,h2,h3,h4,fun x hx=>?_,h5⟩
 have all:∀{l:List (List Key×V)}{m:List (List Key×Addr×Value)},KT H l m->∀x∈m,(tupleKind (Z6 P w)).is h x.1 x.2.1:=by
  intro l m q
  induction q with
  |nil=>intro x hx;exact nomatch hx
  |@cons p q ps qs hq t ih=>
   intro x hx
   rcases List.mem_cons.mp hx with e|hx
   ·subst e
    exact Za0 ok (by rw[<-hq.1];exact hq.2.1)
   ·exact ih x hx
 exact all r x hx
theorem Zki{kvs:List (List Key×V)}(ok:HOk P w H h)(e:H a=some (.dT kvs)):kvs.length<=sizeLine/\(a==sysModules)=false/\
  ∃xs,KT H kvs xs/\h.DictOfH (tupleKind (Z6 P w)) a xs:=Zbu ok (.inl e)
end
def DGet(H:Hp)(a:Addr)(y:V)(r:Option V):Prop:=
 (∃kvs k,Rd H a (.dK kvs)/\y=kV k/\r=ZX kvs k)\/∃kvs k b,Rd H a (.dT kvs)/\y= .ref b/\H b=some (.tup (k.map kV))/\r=ZX kvs k
def DPut(H:Hp)(a:Addr)(y v:V)(H':Hp):Prop:=
 (∃kvs k,H a=some (.dK kvs)/\y=kV k/\kvs.length<sizeLine/\H'=upd H a (.dK (putK kvs k v)))\/
 ∃kvs k b,H a=some (.dT kvs)/\y= .ref b/\H b=some (.tup (k.map kV))/\kvs.length<sizeLine/\H'=upd H a (.dT (putK kvs k v))
theorem DGet.k{H:Hp}{a:Addr}{kvs:List (Key×V)}{k:Key}(e:H a=some (.dK kvs)):DGet H a (kV k) (ZX kvs k):= .inl ⟨kvs,k,.inl e,rfl,rfl⟩
theorem DGet.t{H:Hp}{a b:Addr}{kvs:List (List Key×V)}{k:List Key}(e:H a=some (.dT kvs))(eb:H b=some (.tup (k.map kV))):DGet H a (.ref b) (ZX kvs k):= .inr ⟨kvs,k,b,.inl e,rfl,eb,rfl⟩
theorem DPut.k{H:Hp}{a:Addr}{kvs:List (Key×V)}{k:Key}{v:V}(e:H a=some (.dK kvs))(hl:kvs.length<sizeLine):DPut H a (kV k) v (upd H a (.dK (putK kvs k v))):= .inl ⟨kvs,k,e,rfl,hl,rfl⟩
theorem DPut.t{H:Hp}{a b:Addr}{kvs:List (List Key×V)}{k:List Key}{v:V}(e:H a=some (.dT kvs))(eb:H b=some (.tup (k.map kV)))(hl:kvs.length<sizeLine):
  DPut H a (.ref b) v (upd H a (.dT (putK kvs k v))):= .inr ⟨kvs,k,b,e,rfl,eb,hl,rfl⟩
section
variable{X:Cx}{pins:List (Addr×Obj)}{σ:St}{H:Hp}{s:Shared}{a:Addr}{y v:V}{u r:Value}{o:Option V}{A:Around}{E:Value->Shared->Prop}
theorem ZeS{Q:Value->Shared->Prop}(hu:A.units+1<cLine)(I:Inv X pins σ H s)(g:DGet H a y (some v))(ry:RelV y u)(h:∀w' s',Inv X pins σ H s'->RelV v w'->Q w' s'):
  wpAny (model X.prog X.w) A (getItem (.ref a) u) Q E s:=by
 rcases g with⟨kvs,k,e,ey,l⟩|⟨kvs,k,b,e,ey,eb,l⟩
 ·subst ey
  obtain⟨z,hd,vs,rel,dd⟩:=Zag I.hok e
  obtain⟨w',hw,rw'⟩:=RelO.some_of (v:=v) (o:=valueAt vs k) (by rw[l];exact rel.val k)
  exact wpAny_getItem_of (Zaa ry) dd.mapOf hw (h w' _ (I.tok _) rw')
 ·subst ey
  cases(show u=Value.ref b from ry)
  obtain⟨z,hd,xs,rel,dd⟩:=Zbu I.hok e
  obtain⟨w',hw,rw'⟩:=RelO.some_of (v:=v) (o:=(atKey xs k).map (·.2)) (by rw[l];exact rel.val k)
  obtain⟨p,hp,hp2⟩:=Option.map_eq_some_iff.mp hw
  refine wpAny_getItem_heap (tupleKind_room_in1 hu) (Za0 I.hok eb) dd hp ?_
  rw[hp2]
  exact h w' _ (I.tok _) rw'
theorem Zl6{Q:Value->Shared->Prop}(hu:A.units+1<cLine)(I:Inv X pins σ H s)(g:DGet H a y o)(ry:RelV y u)(h:∀s',Inv X pins σ H s'->Q (.bool o.isSome) s'):
  wpAny (model X.prog X.w) A (compareOp .In u (.ref a)) Q E s:=by
 rcases g with⟨kvs,k,e,ey,l⟩|⟨kvs,k,b,e,ey,eb,l⟩
 ·subst ey
  obtain⟨z,hd,vs,rel,dd⟩:=Zag I.hok e
  refine wpAny_in_of (Zaa ry) hd dd.mapOf ?_
  rw[<-(rel.val k).isSome_eq,<-l]
  exact h _ (I.tok _)
 ·subst ey
  cases(show u=Value.ref b from ry)
  obtain⟨z,hd,xs,rel,dd⟩:=Zbu I.hok e
  refine wpAny_in_heap (tupleKind_room_in1 hu) (Za0 I.hok eb) hd dd ?_
  have q:=(rel.val k).isSome_eq
  rw[Option.isSome_map]at q
  rw[<-q,<-l]
  exact h _ (I.tok _)
theorem Zhq{Q:Value->Shared->Prop}(hu:A.units+1<cLine)(I:Inv X pins σ H s)(g:DGet H a y o)(ry:RelV y u)(h:∀s',Inv X pins σ H s'->Q (.bool (!o.isSome)) s'):
  wpAny (model X.prog X.w) A (compareOp .NotIn u (.ref a)) Q E s:=by
 rcases g with⟨kvs,k,e,ey,l⟩|⟨kvs,k,b,e,ey,eb,l⟩
 ·subst ey
  obtain⟨z,hd,vs,rel,dd⟩:=Zag I.hok e
  refine wpAny_notIn_of (Zaa ry) hd dd.mapOf ?_
  rw[<-(rel.val k).isSome_eq,<-l]
  exact h _ (I.tok _)
 ·subst ey
  cases(show u=Value.ref b from ry)
  obtain⟨z,hd,xs,rel,dd⟩:=Zbu I.hok e
  refine wpAny_notIn_heap (tupleKind_room_in1 hu) (Za0 I.hok eb) hd dd ?_
  have q:=(rel.val k).isSome_eq
  rw[Option.isSome_map]at q
  rw[<-q,<-l]
  exact h _ (I.tok _)
theorem ZaN{h':Heap}{t':Nat}{ob:HO}(I:Inv X pins σ H s)(mu:Mut (H a))(hs:Heap.SameBut a s.heap h')(he:∃q,h'.get? a=some q) (new:ObjOk X.prog X.w (upd H a ob) h' a ob):
  Inv X pins σ (upd H a ob) {s with heap:=h',toks:=t'}:=
 I.write (x:=a) (e:=a) mu (.inl rfl) (fun b q hb z=>(hs.2 b hb).trans z) he new
theorem Zbw{P:Program}{w:World}{H':Hp}{h':Heap}{kvs:List (Key×V)}{vs:List (Key×Value)}(z:kvs.length<=sizeLine)(hd:(a==sysModules)=false)(rel:KV kvs vs)(dd:h'.DictOf (Z6 P w) a vs):
  ObjOk P w H' h' a (.dK kvs):=⟨z,hd,vs,rel,dd⟩
theorem ZeR{H':Hp}{Q:Unit->Shared->Prop}(hu:A.units+1<cLine)(I:Inv X pins σ H s)(g:DPut H a y v H')(ry:RelV y u)(rv:RelV v r)(h:∀s',Inv X pins σ H' s'->Q () s'):
  wpAny (model X.prog X.w) A (setItem (.ref a) u r) Q E s:=by
 rcases g with⟨kvs,k,e,ey,l,eH⟩|⟨kvs,k,b,e,ey,eb,l,eH⟩
 ·subst ey eH
  obtain⟨z,hd,vs,rel,dd⟩:=Zeo I.hok e
  have hz:vs.length<=sizeLine:=by rw[<-rel.length];exact z
  have hl:(putK kvs k v).length<=sizeLine:=by have:=YL kvs k v;omega
  refine wpAny_setItem_pairs (hsz:=hz) (Zaa ry) dd fun h' dd' hs=>h _ ?_
  have he:∃q,h'.get? a=some q:=let⟨q,_,_,hq,_⟩:=dd';⟨q,hq⟩
  exact ZaN I (by rw[e];exact True.intro) hs he (Zbw hl hd (rel.put k rv) dd')
 ·subst ey eH
  cases(show u=Value.ref b from ry)
  obtain⟨z,hd,xs,rel,dd⟩:=Zki I.hok e
  have hz:xs.length<=sizeLine:=by rw[<-Paired.length rel];exact z
  have hl:(putK kvs k v).length<=sizeLine:=by have:=YL kvs k v;omega
  refine wpAny_setItem_heap (hsz:=hz) (tupleKind_room_in1 hu) (Za0 I.hok eb) dd fun h' dd' hs=>h _ ?_
  obtain⟨q,es,ep,hq,h2,h3,h4,_,h5⟩:=dd'
  refine ZaN I (by rw[e];exact True.intro) hs ⟨q,hq⟩ ⟨hl,hd,_,(rel.put k eb rv).keeps fun c ys ec=>?_,q,es,ep,hq,h2,h3,h4,h5⟩
  rw[Zg (Zbg ec e (fun z=>nomatch z))]
  exact ec
end
section
variable{X:Cx}{pins:List (Addr×Obj)}{σ:St}{H:Hp}{s:Shared}{a:Addr}{kvs:List (Key×V)}{k:Key}{u:Value}{A:Around}{E:Value->Shared->Prop}
theorem ZiS{Q:Unit->Shared->Prop}(I:Inv X pins σ H s)(e:H a=some (.dK kvs))(ry:RelV (kV k) u)(l:(ZX kvs k).isSome=true)(h:∀s',Inv X pins σ (upd H a (.dK (YN kvs k))) s'->Q () s'):
  wpAny (model X.prog X.w) A (delItem (.ref a) u) Q E s:=by
 obtain⟨z,hd,vs,rel,dd⟩:=Zeo I.hok e
 refine wpAny_delItem_slot dd.typeIs (by decide) PySem.F.slot_dict_delitem
  (call_meetsIn PySem.F.slot_dict_delitem dd.typeIs PySem.F.entry_dict_delitem (PySem.F.args_dict_delitem_2 _ _) (meets_dict_delitem_pairs (Z6 X.prog X.w) a (Zaa ry)) ⟨vs,dd,by rw[<-rel.length];exact z,by rw[<-(rel.val k).isSome_eq];exact l,fun h' dd' hs=>h _ ?_⟩)
 have he:∃q,h'.get? a=some q:=let⟨q,_,_,hq,_⟩:=dd';⟨q,hq⟩
 exact ZaN I (by rw[e];exact True.intro) hs he (Zbw (Nat.le_trans (ZcX kvs k) z) hd (rel.drop k) dd')
theorem Zkl{v:V}{more:List Value}{Q:Value->Shared->Prop}(I:Inv X pins σ H s)(e:H a=some (.dK kvs))(ry:RelV (kV k) u)(l:ZX kvs k=some v)(hm:more=[]\/∃x,more=[x])
  (h:∀w' s',Inv X pins σ (upd H a (.dK (YN kvs k))) s'->RelV v w'->Q w' s'):wpAny (model X.prog X.w) A (call (.builtin "dict.pop") (.ref a::u::more)) Q E s:=by
 obtain⟨z,hd,vs,rel,dd⟩:=Zeo I.hok e
 obtain⟨w',hw,rw'⟩:=RelO.some_of (v:=v) (o:=valueAt vs k) (by rw[<-l];exact rel.val k)
 have hp:(keyPart u).isSome=true:=by
  cases k with
  |inl i=>obtain⟨t,q⟩:=(show∃t,u=Value.int i t from ry);subst q;rfl
  |inr x=>obtain⟨t,q⟩:=(show∃t,u=Value.str x t from ry);subst q;rfl
 have ha:argsOk "dict.pop" ⟨.ref a::u::more,[]⟩:=by
  rcases hm with q|⟨x,q⟩
  ·subst q;exact PySem.F.args_dict_pop_2 _ _
  ·subst q;exact PySem.F.args_dict_pop_3 _ _ _
 refine call_meetsIn PySem.F.slot_dict_pop dd.typeIs PySem.F.entry_dict_pop ha (meets_dict_pop_there (Z6 X.prog X.w) a (Zaa ry) more hm hp)
  ⟨vs,w',dd,by rw[<-rel.length];exact z,hw,fun h' dd' hs=>h w' _ ?_ rw'⟩
 have he:∃q,h'.get? a=some q:=let⟨q,_,_,hq,_⟩:=dd';⟨q,hq⟩
 exact ZaN I (by rw[e];exact True.intro) hs he (Zbw (Nat.le_trans (ZcX kvs k) z) hd (rel.drop k) dd')
theorem Zkm{Q:Value->Shared->Prop}(I:Inv X pins σ H s)(e:Rd H a (.dK kvs))(h:∀t s',Inv X pins σ H s'->Q (.int kvs.length t) s'):wpAny (model X.prog X.w) A (call (.builtin "len") [.ref a]) Q E s:=by
 obtain⟨z,hd,vs,rel,dd⟩:=Zag I.hok e
 refine call_len_dict hd dd (by rw[<-rel.length];rw[sizeLine_eq]at z;omega) ?_
 rw[<-rel.length]
 exact h _ _ (I.tok _)
end
def ZkB(i:Expr):Prop:=∀ov iv,subscripted i false ov iv=operate [ov,iv] (getItem ov iv)
theorem Zg3{prog:Program}{w:World}{A:Around}{E:Value->Shared->Prop}{s:Shared}{env:Env}{value slice:Expr}{pos:Pos}{T id:String}{Q:Value->Shared->Prop}
  (hl:typeLookup (.type T) "__getitem__"=pure (some (.builtin id)))(hs:ZkB slice)
  (h:wpAny (model prog w) A (eval value env) (fun o s₁=>wpAny (model prog w) A (eval slice env) (fun i s₂=>s₂.TypeIs o T/\wpAny (model prog w) A (getItem o i) Q E s₂) E s₁) E s):
  wpAny (model prog w) A (eval (.Subscript value slice pos) env) Q E s:=by
 refine Subscript_ (wpAny_mono h (fun o s₁ h₁=>wpAny_mono h₁ (fun i s₂ h₂=>?_) fun _ _ x=>x) fun _ _ x=>x)
 obtain⟨hT,h₂⟩:=h₂
 unfold subscriptTail
 refine wpAny_bind ?_
 rw[getitemInPython_of_ne hT.not_modules]
 refine wpAny_bind (wpAny_specialOf hT hl ?_)
 have fin:wpAny (model prog w) A (subscripted slice false o i) (fun r s₃=>wpAny (model prog w) A (letTemporaryGo value o r>>=fun _=>pure r) Q E s₃) E s₂:=by
  rw[hs o i]
  exact wpAny_operating (wpAny_mono h₂ (fun r s₃ h₃=>wpAny_bind (wpAny_letTemporaryGo (wpAny_pure h₃))) fun _ _ x=>x)
 first
  |exact wpAny_pure (wpAny_bind fin)
  |exact wpAny_bind (wpAny_pure (wpAny_bind fin))
  |exact wpAny_bind fin
theorem ZcZ{X:Cx}{pins:List (Addr×Obj)}{σ:St}{H:Hp}{s:Shared}{a:Addr}{y:V}{o:Option V}(I:Inv X pins σ H s)(g:DGet H a y o):s.TypeIs (.ref a) "dict":=by
 rcases g with⟨kvs,k,e,_,_⟩|⟨kvs,k,b,e,_,_,_⟩
 ·obtain⟨_,_,vs,_,dd⟩:=Zag I.hok e
  exact dd.typeIs
 ·obtain⟨_,_,xs,_,dd⟩:=Zbu I.hok e
  exact dd.typeIs
def Zjb(td ty:TE):TE:=fun σ H Q=>td σ H fun x H1=>ty σ H1 fun y H2=>∃a v,x= .ref a/\DGet H2 a y (some v)/\Q v H2
def ZkN(ty td:TE):TE:=fun σ H Q=>ty σ H fun y H1=>td σ H1 fun x H2=>∃a o,x= .ref a/\DGet H2 a y o/\Q (.bl o.isSome) H2
def Zg1(ty td:TE):TE:=fun σ H Q=>ty σ H fun y H1=>td σ H1 fun x H2=>∃a o,x= .ref a/\DGet H2 a y o/\Q (.bl (!o.isSome)) H2
def Zji(td ty tv:TE):TS:=fun D σ H=>tv σ H fun v H1=>td σ H1 fun x H2=>ty σ H2 fun y H3=>∃a H4,x= .ref a/\DPut H3 a y v H4/\D.nx σ H4
section
variable{X:Cx}{o i e value:Expr}{pos pos' tpos:Pos}{td ty tv:TE}
theorem JV(hu:X.A.units+1<cLine)(ho:PE X o td)(hi:PE X i ty)(hs:ZkB i):PE X (.Subscript o i pos) (Zjb td ty):=by
 intro pins s σ H Q I h
 refine Zg3 PySem.F.slot_dict_getitem.lookup hs (thn (ho pins s σ H _ I h) fun u s1⟨x,H1,I1,rx,q1⟩=>thn (hi pins s1 σ H1 _ I1 q1) fun iv s2⟨y,H2,I2,ry,a,v,ex,g,q2⟩=>?_)
 subst ex
 obtain rfl:u=Value.ref a:=rx
 exact⟨ZcZ I2 g,ZeS hu I2 g ry fun w' s3 I3 rw'=>⟨v,H2,I3,rw',q2⟩⟩
theorem Zf6(hu:X.A.units+1<cLine)(hi:PE X i ty)(ho:PE X o td):PC X .In i o (ZkN ty td):=by
 intro pins s σ H Q I h
 refine thn (hi pins s σ H _ I h) fun iv s1⟨y,H1,I1,ry,q1⟩=>thn (ho pins s1 σ H1 _ I1 q1) fun u s2⟨x,H2,I2,rx,a,ov,ex,g,q2⟩=>?_
 subst ex
 obtain rfl:u=Value.ref a:=rx
 exact Zl6 hu I2 g ry fun s3 I3=>⟨.bl ov.isSome,H2,I3,rfl,q2⟩
theorem ZeD(hu:X.A.units+1<cLine)(hi:PE X i ty)(ho:PE X o td):PC X .NotIn i o (Zg1 ty td):=by
 intro pins s σ H Q I h
 refine thn (hi pins s σ H _ I h) fun iv s1⟨y,H1,I1,ry,q1⟩=>thn (ho pins s1 σ H1 _ I1 q1) fun u s2⟨x,H2,I2,rx,a,ov,ex,g,q2⟩=>?_
 subst ex
 obtain rfl:u=Value.ref a:=rx
 exact Zhq hu I2 g ry fun s3 I3=>⟨.bl (!ov.isSome),H2,I3,rfl,q2⟩
theorem Zck(hu:X.A.units+1<cLine)(ho:PE X o td)(hi:PE X i ty)(hv:PE X value tv)(hs:swapsWith value (some (.Subscript o i pos')) pos.line X.env=pure false):
  PS X (.Assign [.Subscript o i pos'] value pos) (Zji td ty tv):=by
 intro pins s σ H D I h
 refine wpAny_Assign_Subscript (thn (hv pins s σ H _ I h) fun r s1⟨v,H1,I1,rv,q1⟩=>thn (ho pins s1 σ H1 _ I1 q1) fun u s2⟨x,H2,I2,rx,q2⟩=>thn (hi pins s2 σ H2 _ I2 q2) fun iv s3⟨y,H3,I3,ry,a,H4,ex,g,q3⟩=>?_) hs
 subst ex
 obtain rfl:u=Value.ref a:=rx
 exact ZeR hu I3 g ry rv fun s4 I4=>⟨σ,H4,I4,q3⟩
end
theorem Zgg{P:Program}{w:World}{H:Hp}(h:Heap)(hb:sysModules<h.objs.size):ObjOk P w H (h.push {cls:= .type "dict",data:= .dict #[]}) h.objs.size (.dT []):=
 ⟨Nat.zero_le _,beq_eq_false_iff_ne.mpr (Ne.symm (Nat.ne_of_lt hb)),[],.nil,_,#[],0,Heap.get?_push_size _ rfl,⟨rfl,rfl,rfl⟩,rfl,rfl,List.nodup_nil⟩
def tDNewT:TE:=fun _ H Q=>∀p,H p=none->Q (.ref p) (upd H p (.dT []))
section
variable{X:Cx}{pos:Pos}
theorem Zf3:PE X (.Dict [] [] pos) tDNewT:=fun pins s σ H Q I h=>
 wpAny_Dict_empty ⟨.ref s.heap.objs.size,_,I.laid (a:=s.heap.objs.size) (o:= .dT []) (t':=s.toks) (fun _ _ q=>Heap.get?_push_of_some _ q) (Nat.le_refl _) (Zgg s.heap I.big),rfl,h _ (I.hok.fresh (Nat.le_refl _))⟩
end
structure M1(X:Cx)(o:Expr)(m:Str)(apos:Pos)(e:Expr)(cpos:Pos):Prop where
 base:attributeBase o m X.env (eval o X.env)=eval o X.env
 few:((backTo cpos (starEach [e] X.env)).all (fun x=> !x.1)&&(backToKw cpos (keywordEach [] X.env)).all (fun x=>x.1.isSome)
  &&decide (([e]:List Expr).length+([]:List Keyword).length+(if([]:List Keyword).isEmpty then 0 else 1)<30))=true
 line:(apos.endLine==cpos.line)=true
 trees:backTo cpos (starEach [e] X.env)=[(false,eval e X.env)]
structure M2(X:Cx)(o:Expr)(m:Str)(apos:Pos)(e f:Expr)(cpos:Pos):Prop where
 base:attributeBase o m X.env (eval o X.env)=eval o X.env
 few:((backTo cpos (starEach [e,f] X.env)).all (fun x=> !x.1)&&(backToKw cpos (keywordEach [] X.env)).all (fun x=>x.1.isSome)
  &&decide (([e,f]:List Expr).length+([]:List Keyword).length+(if([]:List Keyword).isEmpty then 0 else 1)<30))=true
 line:(apos.endLine==cpos.line)=true
 trees:backTo cpos (starEach [e,f] X.env)=[(false,eval e X.env),(false,eval f X.env)]
def IsD(H:Hp)(a:Addr):Prop:=(∃kvs,Rd H a (.dK kvs))\/∃kvs,Rd H a (.dT kvs)
theorem ZfW{X:Cx}{pins:List (Addr×Obj)}{σ:St}{H:Hp}{s:Shared}{a:Addr}(I:Inv X pins σ H s)(d:IsD H a):
  s.TypeIs (.ref a) "dict"/\(∀b,Value.ref a= .ref b->∃ob,s.heap.get? b=some ob/\ob.dict=none)/\(a==sysModules)=false:=by
 rcases d with⟨kvs,e⟩|⟨kvs,e⟩
 ·obtain⟨_,hd,vs,_,dd⟩:=Zag I.hok e
  refine⟨dd.typeIs,fun b q=>?_,hd⟩
  cases q
  obtain⟨ob,_,_,h1,h2,_⟩:=dd
  exact⟨ob,h1,h2.2.1⟩
 ·obtain⟨_,hd,xs,_,dd⟩:=Zbu I.hok e
  refine⟨dd.typeIs,fun b q=>?_,hd⟩
  cases q
  obtain⟨ob,_,_,h1,h2,_⟩:=dd
  exact⟨ob,h1,h2.2.1⟩
section
variable{X:Cx}{pins:List (Addr×Obj)}{σ:St}{H:Hp}{s:Shared}{a:Addr}{y d:V}{u r:Value}{o:Option V}{A:Around}{E:Value->Shared->Prop}
theorem ZiJ{Q:Value->Shared->Prop}(hu:A.units+1<cLine)(I:Inv X pins σ H s)(g:DGet H a y o)(ry:RelV y u)(rd:RelV d r)(h:∀w' s',Inv X pins σ H s'->RelV (o.getD d) w'->Q w' s'):
  wpAny (model X.prog X.w) A (call (.builtin "dict.get") [.ref a,u,r]) Q E s:=by
 rcases g with⟨kvs,k,e,ey,l⟩|⟨kvs,k,b,e,ey,eb,l⟩
 ·subst ey
  obtain⟨z,hd,vs,rel,dd⟩:=Zag I.hok e
  refine call_meetsIn PySem.F.slot_dict_get dd.typeIs PySem.F.entry_dict_get (PySem.F.args_dict_get_3 _ _ _) (meets_dict_get_default (Z6 X.prog X.w) a (Zaa ry) hd r) ⟨_,dd.mapOf,h _ _ (I.tok _) ?_⟩
  rw[l]
  exact(rel.val k).getD rd
 ·subst ey
  cases(show u=Value.ref b from ry)
  obtain⟨z,hd,xs,rel,dd⟩:=Zbu I.hok e
  refine call_meetsIn PySem.F.slot_dict_get dd.typeIs PySem.F.entry_dict_get (PySem.F.args_dict_get_3 _ _ _) (meetsH_dict_get_default (tupleKind (Z6 X.prog X.w)) a b hd r) ⟨tupleKind_room_in1 hu,k,xs,Za0 I.hok eb,dd,h _ _ (I.tok _) ?_⟩
  rw[l]
  exact(rel.val k).getD rd
end
def ZhT(td ty tx:TE):TE:=fun σ H Q=>td σ H fun x H1=>∃a,x= .ref a/\IsD H1 a/\ty σ H1 fun y H2=>tx σ H2 fun z H3=>∃o,DGet H3 a y o/\Q (o.getD z) H3
def ZhS(td ty:TE):TE:=fun σ H Q=>td σ H fun x H1=>∃a,x= .ref a/\IsD H1 a/\ty σ H1 fun y H2=>∃kvs k v,H2 a=some (.dK kvs)/\y=kV k/\ZX kvs k=some v/\Q v (upd H2 a (.dK (YN kvs k)))
section
variable{X:Cx}{o e f:Expr}{apos cpos:Pos}{td ty tx:TE}
theorem Zf5(hu:X.A.units+1<cLine)(ho:PE X o td)(he:PE X e ty)(hf:PE X f tx)(m:M2 X o "get" apos e f cpos):PE X (.Call (.Attribute o "get" apos) [e,f] [] cpos) (ZhT td ty tx):=by
 intro pins s σ H Q I h
 refine wpAny_Call_method m.base m.few m.line PySem.F.plainAttrs_dict PySem.F.slot_dict_get PySem.F.type_dict_get (thn (ho pins s σ H _ I h) fun u s1⟨x,H1,I1,rx,a,ex,d,q1⟩=>?_)
 subst ex
 obtain rfl:u=Value.ref a:=rx
 obtain⟨t1,t2,_⟩:=ZfW I1 d
 refine⟨t1,t2,?_⟩
 rw[m.trees]
 refine Calls.callWith_builtin rfl (Calls.evalArgs_plain (Calls.spliced_cons (thn (he pins s1 σ H1 _ I1 q1) fun iv s2⟨y,H2,I2,ry,q2⟩=>
  Calls.spliced_cons (thn (hf pins s2 σ H2 _ I2 q2) fun fv s3⟨z,H3,I3,rz,ov,g,q3⟩=>Calls.spliced_nil ?_))))
 exact ZiJ hu I3 g ry rz fun w' s4 I4 rw'=>⟨_,H3,I4,rw',q3⟩
theorem Zf2(ho:PE X o td)(he:PE X e ty)(m:M1 X o "pop" apos e cpos):PE X (.Call (.Attribute o "pop" apos) [e] [] cpos) (ZhS td ty):=by
 intro pins s σ H Q I h
 refine wpAny_Call_method m.base m.few m.line PySem.F.plainAttrs_dict PySem.F.slot_dict_pop PySem.F.type_dict_pop (thn (ho pins s σ H _ I h) fun u s1⟨x,H1,I1,rx,a,ex,d,q1⟩=>?_)
 subst ex
 obtain rfl:u=Value.ref a:=rx
 obtain⟨t1,t2,_⟩:=ZfW I1 d
 refine⟨t1,t2,?_⟩
 rw[m.trees]
 refine Calls.callWith_builtin rfl (Calls.evalArgs_plain (Calls.spliced_cons (thn (he pins s1 σ H1 _ I1 q1) fun iv s2⟨y,H2,I2,ry,kvs,k,v,ea,ey,l,q2⟩=>Calls.spliced_nil ?_)))
 subst ey
 exact Zkl I2 ea ry l (.inl rfl) fun w' s3 I3 rw'=>⟨v,_,I3,rw',q2⟩
end
section
variable{X:Cx}{pins:List (Addr×Obj)}{σ:St}{H:Hp}{s:Shared}{a:Addr}{kvs:List (Key×V)}{A:Around}{E:Value->Shared->Prop}
theorem Zgj{Q:Value->Shared->Prop}(I:Inv X pins σ H s)(e:Rd H a (.dK kvs))(h:∀p s',H p=none->Inv X pins σ (upd H p (.dK kvs)) s'->Q (.ref p) s'):wpAny (model X.prog X.w) A (call (.type "dict") [.ref a]) Q E s:=by
 obtain⟨z,hd,vs,rel,dd⟩:=Zag I.hok e
 refine kt_call_dict hd dd (by rw[<-rel.length];exact z) fun h' dd' hs=>?_
 refine h _ _ (I.hok.fresh (Nat.le_refl _)) (I.laid (a:=s.heap.objs.size) (o:= .dK kvs) (t':=s.toks) (fun b q hq=>?_) (Nat.le_refl _) (Zbw z (beq_eq_false_iff_ne.mpr (Ne.symm (Nat.ne_of_lt I.big))) rel dd'))
 exact(hs.2 b (Nat.ne_of_lt (Heap.lt_size hq))).trans (Heap.get?_push_of_some _ hq)
end
section
variable{X:Cx}
theorem ZeX:CallR X (.builtin "len") (fun xs H Q=>∃a kvs,xs=[V.ref a]/\H a=some (.dK kvs)/\Q (.int kvs.length) H):=by
 intro pins s σ H xs us Q I r h
 obtain⟨a,kvs,rfl,ha,q⟩:=h
 obtain⟨u,rfl,ru⟩:=vals1 r
 cases ru
 exact Zkm I (.inl ha) fun t s' I'=>⟨.int kvs.length,H,I',⟨t,rfl⟩,q⟩
end
section
variable{κ:Type}[DecidableEq κ]
theorem Zgu{kvs:List (κ×V)}{k:κ}{v:V}(h:ZX kvs k=some v):k∈kvs.map (·.1):=by
 have q:(kvs.any fun kv=>decide (kv.1=k))=true:=by
  rw[YH,h]
  all_goals rfl
 obtain⟨p,hp,e⟩:=List.any_eq_true.mp q
 exact List.mem_map.mpr ⟨p,hp,of_decide_eq_true e⟩
theorem ZeP{p:κ×V}{r:List (κ×V)}{k:κ}(e:p.1=k):YN (p::r) k=YN r k:=by
 unfold YN
 rw[List.filter_cons,if_neg (by simp[e])]
theorem ZeQ{p:κ×V}{r:List (κ×V)}{k:κ}(e:¬p.1=k):YN (p::r) k=p::YN r k:=by
 unfold YN
 rw[List.filter_cons,if_pos (by simp[e])]
end
end L2
namespace PySem
open Sem (wp)
theorem Zcs:typeLookup (.type "list") "keys"=pure none:=by rw[typeLookup_type,builtinLookup_eq_fast];kernel_rfl
section
variable{prog:Program}{w:World}{A:Around}{E:Value->Shared->Prop}{s:Shared}
theorem Zbl{a:Addr}{o:Obj}{xs:Array Value}{k:Nat}{Q:Option Value->Shared->Prop}(hx:s.heap.get? a=some o)(hc:o.cls= .type "list")(hdat:o.data= .seq xs k)(hd:o.dict=none)(hA:A.handled=none)
  (h:∀h' tk,(∀b o,s.heap.get? b=some o->h'.get? b=some o)->Q none {s with heap:=h',toks:=tk}):wpAny (model prog w) A (getAttr? (.ref a) "keys") Q E s:=by
 obtain⟨c,dct,dat,sl⟩:=o
 simp only at hc hdat hd
 subst hc hdat hd
 obtain⟨hp,g,d,tk,os⟩:=s
 have hT:∀tk',(⟨hp,g,d,tk',os⟩:Shared).TypeIs (.ref a) "list":=fun _=>⟨_,hx,rfl⟩
 have f1:=sub_AttributeError
 have f3:=F.slot_list_getattribute.lookup
 have f4:=F.slot_list_getattribute.bind (.ref a)
 have f5:=am_list_getattr_none
 have hm:=Zcs
 unfold getAttr? getAttrBy? getAttrBy
 repeat (any_goals (first|assumption|exact hT _|((with_reducible show wpAny _ _ (call (Value.builtin "list.__getattribute__") _ _) _ _ _);refine call_meets F.slot_list_getattribute (hT _) am_entry_list_getattribute (F.args_list_getattribute_2 _ _) (meets_getattribute_miss_list a xs k sl "keys" _ hm (by decide+kernel) (by size_fits)) ⟨hx,hA,fun h' tk' e hx'=>?_⟩)|wp_step))
 obtain⟨t',u',he⟩:=hx'.there
 have hTe:∀tk',(⟨h',g,d,tk',os⟩:Shared).TypeIs (.ref e) "AttributeError":=fun _=>⟨_,he,rfl⟩
 show wpAny _ _ (getattributeRaised _ _ _ _ _ _ _) _ _ _
 unfold getattributeRaised
 repeat (any_goals (first|assumption|exact hTe _|wp_step))
 exact h _ _ hx'.keeps
end
end PySem
namespace DictL
open PySem PySem.Spec PyProof.Rows
theorem Zbt:entryFor table "dict.update.loop"=some Builtin.«dict.update.loop»:=entryFor_of_tree (by kernel_rfl)
theorem Jb:plainId "dict.update.loop"=true:=by decide+kernel
section
variable{prog:Program}{w:World}{K:Type}[DecidableEq K]{knd:KeyKind prog w K}{A:Around}{R:Result->Shared->Prop}{I:Addr}{fp wr:List Addr}{G:Array GenState->Array GenState->Prop}{n:Nat}{P:Nat->Value->Prop}{St:Nat->Shared->Prop}
def upTo(kv:Nat->K×Value)(i:Nat):List (K×Value):=((List.range i).map kv).foldl (fun acc p=>stored acc p.1 p.2) []
theorem upTo_succ(kv:Nat->K×Value)(i:Nat):upTo kv (i+1)=stored (upTo kv i) (kv i).1 (kv i).2:=by
 unfold upTo;rw[List.range_succ,List.map_append,List.foldl_append];rfl
theorem Zdq(kvs:List (K×Value))(k:K)(v:Value):(stored kvs k v).length<=kvs.length+1:=by
 unfold stored
 split
 ·rw[List.length_map];omega
 ·rw[List.length_append];exact Nat.le_refl _
theorem Zc5(kv:Nat->K×Value):∀i,(upTo kv i).length<=i
 |0=>Nat.le_refl _
 |i+1=>by
  rw[upTo_succ]
  have:=Zc5 kv i
  have:=Zdq (upTo kv i) (kv i).1 (kv i).2
  omega
def PairAt(knd:KeyKind prog w K)(h:Heap)(b:Addr)(p:K×Value):Prop:=∃o key m,h.get? b=some o/\o.cls= .type "tuple"/\o.data= .seq #[key,p.2] m/\knd.is p.1 key=true
theorem loop(W:WalksS prog w A.in1 I fp wr G n P St)(D:Addr)(hDf:D ∉ fp)(kv:Nat->K×Value)(hb:n<=1000):
  ∀(k i:Nat)(s:Shared),n-i=k->i<=n->St i s->(∀(j:Nat) v,P j v->∃b,v= .ref b/\PairAt knd s.heap b (kv j)/\b ∉ D::wr)->
   s.heap.DictOf knd D (upTo kv i)->
   (∀s',Moved (D::wr) G s s'->s'.heap.DictOf knd D (upTo kv n)->R (.ok (.ret .none)) s')->
   codeAny (model prog w) A (.builtin "dict.update.loop" ⟨[.ref D,.ref I,rawInt i,.none],[]⟩) R s:=by
 have hDw:D ∉ wr:=fun h=>hDf (W.sub _ h)
 have hsub:∀b∈wr,b∈D::wr:=fun b hb=>List.mem_cons_of_mem _ hb
 have keepD:∀{s s':Shared}{kvs:List (K×Value)},(∀b o,b ∉ wr->s.heap.get? b=some o->s'.heap.get? b=some o)->s.heap.DictOf knd D kvs->s'.heap.DictOf knd D kvs:=by
  intro s s' kvs hk hS
  obtain⟨o,es,ep,ho,r⟩:=hS
  exact⟨o,es,ep,hk D o hDw ho,r⟩
 intro k
 induction k with
 |zero=>
  intro i s hk hi hst hv hS hR
  have hin:i=n:=by omega
  subst hin
  refine codeAny_builtin Zbt ?_
  rw[Around.under_plainId Jb _]
  show wpAny _ A.in1 (pyNext (.ref I)>>=_) _ _ s
  refine wpAny_bind (W.done s _ _ hst fun s' hm=>?_)
  show wpAny _ A.in1 (Builtin.Dict.addKeywords D []>>=_) _ _ s'
  exact wpAny_bind (wpAny_pure (wpAny_pure (hR s' (hm.mono hsub) (keepD hm.heap hS))))
 |succ k ih=>
  intro i s hk hi hst hv hS hR
  have hlt:i<n:=by omega
  refine codeAny_builtin Zbt ?_
  rw[Around.under_plainId Jb _]
  show wpAny _ A.in1 (pyNext (.ref I)>>=_) _ _ s
  refine wpAny_bind (W.item i s _ _ hlt hst fun v s' hP hst' hm=>?_)
  obtain⟨b,rfl,hp,hbn⟩:=hv i v hP
  have hbw:b ∉ wr:=fun z=>hbn (hsub b z)
  have hS':=keepD hm.heap hS
  obtain⟨o,key,m,ho,hc,hd,hk'⟩:=hp
  have ho':=hm.heap b o hbw ho
  have hT:s'.TypeIs (.ref b) "tuple":=⟨o,ho',hc⟩
  show wpAny _ A.in1 (holding [Value.ref b] _>>=_) _ _ s'
  refine wpAny_bind (wpAny_holding ?_)
  refine wpAny_bind ?_
  refine wpAny_tryCatch ?_
  unfold Builtin.Dict.pairItems
  refine wpAny_bind (wpAny_typeOf hT ?_)
  rw[if_pos (by decide)]
  refine wpAny_bind (wpAny_seqItems ho' hd ?_)
  refine wpAny_pure ?_
  show wpAny _ A.in1 (holding [key,(kv i).2] (dictSet D key (kv i).2)) _ _ s'
  refine wpAny_holding ?_
  have hlen:=Zc5 kv i
  refine wpAny_dictSet_pairs (hsz:=L2.Yq (by omega)) hk' hS' fun h' hD' hsb=>?_
  rw[<-upTo_succ]at hD'
  refine wpAny_pure ⟨plainId_quiet Jb _,?_⟩
  show codeAny _ A (.builtin "dict.update.loop" ⟨[.ref D,.ref I,rawInt ((i+1:Nat):Int),.none],[]⟩) R _
  refine ih (i+1) _ (by omega) hlt (W.frame _ s' _ _ hst' (Nat.le_add_right _ _) fun c hc' o' e=>?_) (fun j v hj=>?_) hD' fun s'' hm'' hS''=>?_
  ·rw[hsb.2 c (fun h:c=D=>hDf (by rw[<-h];exact hc'))];exact e
  ·obtain⟨b2,e2,⟨ob,key2,m2,h1,h2⟩,hn2⟩:=hv j v hj
   refine⟨b2,e2,⟨ob,key2,m2,?_,h2⟩,hn2⟩
   exact(hsb.2 b2 (fun h:b2=D=>hn2 (by rw[h];exact List.mem_cons_self))).trans (hm.heap b2 ob (fun z=>hn2 (hsub b2 z)) h1)
  ·refine hR s'' (Moved.trans W.gtrans ((hm.mono hsub).then_heap (Nat.le_add_right _ _) fun c o' hc' e=>?_) hm'') hS''
   rw[hsb.2 c (fun h:c=D=>hc' (by rw[h];exact List.mem_cons_self))];exact e
end
section
variable{prog:Program}{w:World}{K:Type}[DecidableEq K]{knd:KeyKind prog w K}{A:Around}{E:Value->Shared->Prop}{s:Shared}
theorem call_dict_list{l:Addr}{items:Array Value}{kv:Nat->K×Value}{Q:Value->Shared->Prop}(hh:A.handled=none)(hl:∃o m,s.heap.get? l=some o/\o.cls= .type "list"/\o.dict=none/\o.data= .seq items m)
  (hi:∀(i:Nat)(v:Value),items[i]?=some v->∃b,v= .ref b/\PairAt knd s.heap b (kv i)) (hb:items.size<=1000)
  (h:∀(h':Heap)(tk:Nat),h'.DictOf knd s.heap.objs.size (upTo kv items.size)->(∀b o,s.heap.get? b=some o->h'.get? b=some o)->Q (.ref s.heap.objs.size) {s with heap:=h',toks:=tk}):
  wpAny (model prog w) A (call (.type "dict") [.ref l]) Q E s:=by
 obtain⟨ol,ml,hol,hcl,hdl,hsl⟩:=hl
 refine callType_codes (Q₁:=fun obj s₁=>obj= .ref s.heap.objs.size/\s₁={s with heap:=s.heap.push {cls:= .type "dict",data:= .dict #[]}}) F.kt_called_dict (F.kt_typeCall_dict_1 _) F.entry_dict_init (kt_code_dict_new _ ⟨rfl,rfl⟩) ?_
 rintro obj s₁ ⟨rfl,rfl⟩
 have hnew:(s.heap.push {cls:= .type "dict",data:= .dict #[]}).DictOf knd s.heap.objs.size []:=Heap.DictOf.new s.heap
 have hol':(s.heap.push {cls:= .type "dict",data:= .dict #[]}).get? l=some ol:=Heap.get?_push_of_some _ hol
 refine⟨hnew.typeIs,F.args_dict_init_2 _ _,?_⟩
 unfold Builtin.«dict.__init__»
 refine wpAny_bind ?_
 unfold Builtin.Dict.selfAndRest
 refine wpAny_bind (wpAny_notOrdered_dict hnew.typeIs ?_)
 show wpAny _ _ (pure (s.heap.objs.size,[Value.ref l])) _ _ _
 refine wpAny_pure ?_
 show wpAny _ _ (Builtin.Dict.updateFrom "dict.__init__" s.heap.objs.size (.ref l) [] .none) _ _ _
 unfold Builtin.Dict.updateFrom
 refine wpAny_bind (wpAny_typeOf (show Shared.TypeIs _ (.ref l) "list" from⟨ol,hol',hcl⟩) ?_)
 rw[if_pos (by decide)]
 refine wpAny_bind (Zbl hol' hcl hsl hdl (by simp[hh]) fun h1 tk1 k1=>?_)
 rw[if_pos (show(Option.isNone (none:Option Value))=true from rfl)]
 refine wpAny_bind (wpAny_rule ?_)
 have hol1:=k1 _ _ hol'
 have hl1:h1.IsList l items:=⟨ol,hol1,hcl,ml,hsl⟩
 refine wpAny_bind (wpAny_pyIter_list hl1 ?_)
 have hD1:∀o,s.heap.get? s.heap.objs.size=some o->False:=fun o e=>absurd (Heap.lt_size e) (Nat.lt_irrefl _)
 have hDI:s.heap.objs.size<h1.objs.size:=by
  obtain⟨o,_,_,ho,_⟩:=hnew
  exact Heap.lt_size (k1 _ _ ho)
 have hlI:l<h1.objs.size:=Heap.lt_size hol1
 have hlD:l<s.heap.objs.size:=Heap.lt_size hol
 have up:∀b o,s.heap.get? b=some o->(h1.push {cls:= .type "list_iterator",data:= .fields #[.ref l,.int 0 0]}).get? b=some o:=fun b o e=>Heap.get?_push_of_some _ (k1 _ _ (Heap.get?_push_of_some _ e))
 refine wpAny_pure ⟨plainId_quiet Jb _,?_⟩
 have hh2:A.in1.in1.handled=none:=by simp[hh]
 refine loop (knd:=knd) ((Walks.list hh2 h1.objs.size l (Nat.ne_of_lt hlI) items).toS) s.heap.objs.size ?hf kv hb (items.size-0) 0 _ (by omega) (Nat.zero_le _)
  ⟨⟨_,Heap.get?_push_size _ rfl,rfl,rfl⟩,(hl1.push _)⟩ (fun i v hv=>?hval) ?hS0 ?hR
 case hf=>
  simp only[List.mem_cons,List.mem_singleton,List.not_mem_nil,or_false,not_or]
  exact⟨Nat.ne_of_lt hDI,Nat.ne_of_gt hlD⟩
 case hval=>
  obtain⟨b,e,o,key,m,h1',h2'⟩:=hi i v hv
  have hbs:b<s.heap.objs.size:=Heap.lt_size h1'
  refine⟨b,e,⟨o,key,m,up _ _ h1',h2'⟩,?_⟩
  simp only[List.mem_cons,List.mem_singleton,List.not_mem_nil,or_false,not_or]
  exact⟨Nat.ne_of_lt hbs,Nat.ne_of_lt (Nat.lt_trans hbs hDI)⟩
 case hS0=>
  obtain⟨o,es,ep,ho,r⟩:=hnew
  exact⟨o,es,ep,Heap.get?_push_of_some _ (k1 _ _ ho),r⟩
 case hR=>
  intro s' hm hS'
  obtain⟨h',g',d',tk',os'⟩:=s'
  have eg:g'=s.gens:=hm.gens
  have ed:d'=s.drawn:=hm.drawn
  have eo:os'=s.os:=hm.os
  subst eg;subst ed;subst eo
  refine⟨rfl,h h' tk' hS' fun b o e=>?_⟩
  have hbs:b<s.heap.objs.size:=Heap.lt_size e
  exact hm.heap b o (by simp only[List.mem_cons,List.mem_singleton,List.not_mem_nil,or_false,not_or];exact⟨Nat.ne_of_lt hbs,Nat.ne_of_lt (Nat.lt_trans hbs hDI)⟩) (up b o e)
end
end DictL
namespace L2
open PySem PySem.Spec PyProof.Rows
theorem Zs{H:Hp}{d:Addr}{o:HO}(h:H d=Option.none):Same H (upd H d o):=fun b u e=>by rw[Zg (Zz e h)];exact e
theorem Same.none{H H':Hp}(s:Same H H'){d:Addr}(h:H' d=Option.none):H d=Option.none:=by
 cases z:H d with
 |none=>rfl
 |some o=>rw[s d o z]at h;cases h
theorem Same.wr{H H':Hp}(s:Same H H'){d:Addr}{o:HO}(h:H d=Option.none):Same H (upd H' d o):=fun b u e=>by rw[Zg (Zz e h)];exact s b u e
end L2
namespace My
open PySem L2
theorem Ye:bootBuiltins "len"=some (.builtin "len"):=by decide+kernel
theorem Za3:bootBuiltins "isinstance"=some (.builtin "isinstance"):=by decide+kernel
theorem Zk6:bootBuiltins "int"=some (.type "int"):=by decide+kernel
theorem Zk7:bootBuiltins "bool"=some (.type "bool"):=by decide+kernel
theorem Yh:bootBuiltins "tuple"=some (.type "tuple"):=by decide+kernel
theorem ZhG:bootBuiltins "list"=some (.type "list"):=by decide+kernel
theorem ZiP:bootBuiltins "range"=some (.type "range"):=by decide+kernel
theorem ZiQ:bootBuiltins "max"=some (.builtin "max"):=by decide+kernel
theorem Zgp:bootBuiltins "dict"=some (.type "dict"):=by decide+kernel
structure Bi(mg:Str->Option Value):Prop where
 len:mg "len"=none
 isi:mg "isinstance"=none
 int:mg "int"=none
 bool:mg "bool"=none
 tuple:mg "tuple"=none
 list:mg "list"=none
 range:mg "range"=none
 max:mg "max"=none
 min:mg "min"=none
 zip:mg "zip"=none
 dict:mg "dict"=none
theorem kit(K:PySem.W.Frag)(T U:String)(b:Bool)(h:PySem.W.kitOne [] (.type T) (.type U)=some b):PySem.W.kitOne K (.type T) (.type U)=some b:=h
def TieOk(H:Hp)(n:Int)(t:V):Prop:=∃q i j,t=V.ref q/\H q=some (.tup [.int i,.int j])/\0<=i/\i<n/\0<=j/\j<n/\i≠j
def Ties(H:Hp)(n:Int)(ts:List V):Prop:=∀t∈ts,TieOk H n t
theorem TieOk.same{H H':Hp}{n:Int}{t:V}(h:TieOk H n t)(k:Same H H'):TieOk H' n t:=let⟨q,i,j,a,b,c⟩:=h;⟨q,i,j,a,k _ _ b,c⟩
theorem Ties.same{H H':Hp}{n:Int}{ts:List V}(h:Ties H n ts)(k:Same H H'):Ties H' n ts:=fun t ht=>(h t ht).same k
structure NetZ(H:Hp)(p:Addr)(n:Nat)(q:Addr)(ts:List V)(es:List (Nat×Nat)):Prop where
 e1:H p=some (.tup [.int (n:Int),.ref q])
 e2:H q=some (.tup ts)
 len:ts.length=es.length
 tie:∀(i:Nat) t,ts[i]?=some t->∃a,t=V.ref a/\H a=some (.tup [.int ((es.getD i (0,0)).1:Int),.int ((es.getD i (0,0)).2:Int)])
 l200:es.length<=200
 n60:n<=60
 ok:∀e∈es,e.1<n/\e.2<n/\e.1≠e.2
theorem NetZ.same{H H':Hp}{p q:Addr}{n:Nat}{ts:List V}{es:List (Nat×Nat)}(h:NetZ H p n q ts es)(k:Same H H'):NetZ H' p n q ts es:=
 ⟨k _ _ h.e1,k _ _ h.e2,h.len,fun i t e=>let⟨a,x,y⟩:=h.tie i t e;⟨a,x,k _ _ y⟩,h.l200,h.n60,h.ok⟩
theorem getD_mem{es:List (Nat×Nat)}{k:Nat}(h:k<es.length):es.getD k (0,0)∈es:=by rw[List.getD_eq_getElem?_getD,List.getElem?_eq_getElem h];exact List.getElem_mem h
theorem NetZ.at'{H:Hp}{p q:Addr}{n:Nat}{ts:List V}{es:List (Nat×Nat)}(h:NetZ H p n q ts es){k:Nat}(hk:k<es.length):∃a,ts[k]?=some (.ref a)/\H a=some (.tup [.int ((es.getD k (0,0)).1:Int),.int ((es.getD k (0,0)).2:Int)]):=by
 have hk':k<ts.length:=by rw[h.len];exact hk
 obtain⟨a,x,y⟩:=h.tie k _ (List.getElem?_eq_getElem hk')
 exact⟨a,by rw[List.getElem?_eq_getElem hk',x],y⟩
theorem ZdN{H:Hp}{n:Int}:∀{ts:List V},Ties H n ts->∃es:List (Nat×Nat),ts.length=es.length/\(∀(i:Nat) t,ts[i]?=some t->∃a,t=V.ref a/\H a=some (.tup [.int ((es.getD i (0,0)).1:Int),.int ((es.getD i (0,0)).2:Int)]))/\∀e∈es,(e.1:Int)<n/\(e.2:Int)<n/\e.1≠e.2
 |[],_=>⟨[],rfl,(fun i t e=>by rw[List.getElem?_nil]at e;cases e),fun e h=>by cases h⟩
 |t::ts,h=>by
  obtain⟨es,h1,h2,h3⟩:=ZdN (ts:=ts) fun u hu=>h u (.tail _ hu)
  obtain⟨q,i,j,rfl,hq,b1,b2,b3,b4,b5⟩:=h t (.head _)
  refine⟨(i.toNat,j.toNat)::es,by rw[List.length_cons,List.length_cons,h1],fun k u e=>?_,fun e he=>?_⟩
  ·cases k with
   |zero=>
    rw[List.getElem?_cons_zero]at e
    cases e
    refine⟨q,rfl,?_⟩
    show H q=some (.tup [.int ((i.toNat:Nat):Int),.int ((j.toNat:Nat):Int)])
    rw[Int.toNat_of_nonneg b1,Int.toNat_of_nonneg b3]
    exact hq
   |succ k=>
    rw[List.getElem?_cons_succ]at e
    obtain⟨a,x,y⟩:=h2 k u e
    exact⟨a,x,by rw[y];rfl⟩
  ·cases he with
   |head=>
    show((i.toNat:Nat):Int)<n/\((j.toNat:Nat):Int)<n/\i.toNat≠j.toNat
    omega
   |tail _ he=>exact h3 e he
theorem ZaI{H:Hp}{p q:Addr}{n m:Int}{ts:List V}(e1:H p=some (.tup [.int m,.ref q]))(e2:H q=some (.tup ts))(l:ts.length<=200)(hT:Ties H n ts)(h0:0<=m)(h60:m<=60)(hnm:n<=m):∃es,NetZ H p m.toNat q ts es:=by
 obtain⟨es,h1,h2,h3⟩:=ZdN hT
 exact⟨es,by rw[Int.toNat_of_nonneg h0];exact e1,e2,h1,h2,by omega,by omega,fun e he=>by obtain⟨a,b,c⟩:=h3 e he;exact⟨by omega,by omega,c⟩⟩
def nl(l:List Nat):List V:=l.map fun x:Nat=>V.int (x:Int)
theorem Zd7{l:List Nat}{i x:Nat}(h:l[i]?=some x):(nl l)[i]?=some (.int (x:Int)):=by unfold nl;rw[List.getElem?_map,h];rfl
theorem Z8(l:List Nat):(nl l).length=l.length:=by unfold nl;rw[List.length_map]
def tN:Option Nat->V
 |none=> .non
 |some t=> .int (t:Int)
def tv(tl:List (Option Nat)):List V:=tl.map tN
theorem Y9(tl:List (Option Nat)):(tv tl).length=tl.length:=by unfold tv;rw[List.length_map]
theorem Zcb{tl:List (Option Nat)}{i:Nat}{o:Option Nat}(h:tl[i]?=some o):(tv tl)[i]?=some (tN o):=by unfold tv;rw[List.getElem?_map,h];rfl
theorem ZhK{tl:List (Option Nat)}{i:Nat}{x:V}(h:(tv tl)[i]?=some x):∃o,tl[i]?=some o/\x=tN o:=by
 unfold tv at h
 rw[List.getElem?_map]at h
 cases e:tl[i]? with
 |none=>rw[e]at h;cases h
 |some o=>rw[e]at h;cases h;exact⟨o,rfl,rfl⟩
def At(e:Nat×Nat)(p:Nat):Prop:=p=e.1\/p=e.2
def Used(es:List (Nat×Nat))(tl:List (Option Nat))(k p t:Nat):Prop:=∃j,j<k/\tl[j]?=some (some t)/\At (es.getD j (0,0)) p
def CleanTo(es:List (Nat×Nat))(tl:List (Option Nat))(k:Nat):Prop:=∀i j t,j<i->i<k->tl[i]?=some (some t)->tl[j]?=some (some t)->∀p,At (es.getD i (0,0)) p->¬At (es.getD j (0,0)) p
theorem CleanTo.zero(es:List (Nat×Nat))(tl:List (Option Nat)):CleanTo es tl 0:=fun i j t _ h=>absurd h (Nat.not_lt_zero _)
theorem Used.zero{es:List (Nat×Nat)}{tl:List (Option Nat)}{p t:Nat}:¬Used es tl 0 p t:=fun⟨j,h,_⟩=>absurd h (Nat.not_lt_zero _)
theorem Used.succ{es:List (Nat×Nat)}{tl:List (Option Nat)}{k p t:Nat}:Used es tl (k+1) p t↔Used es tl k p t\/(tl[k]?=some (some t)/\At (es.getD k (0,0)) p):=by
 constructor
 ·rintro⟨j,h,a,b⟩
  by_cases e:j=k
  ·subst e;exact .inr ⟨a,b⟩
  ·exact .inl ⟨j,by omega,a,b⟩
 ·rintro(⟨j,h,a,b⟩|⟨a,b⟩)
  ·exact⟨j,by omega,a,b⟩
  ·exact⟨k,by omega,a,b⟩
theorem CleanTo.succ{es:List (Nat×Nat)}{tl:List (Option Nat)}{k:Nat}(h:CleanTo es tl k)(hk:∀t,tl[k]?=some (some t)->∀p,At (es.getD k (0,0)) p->¬Used es tl k p t):CleanTo es tl (k+1):=by
 intro i j t hj hi h1 h2 p hp hq
 by_cases e:i=k
 ·subst e
  exact hk t h1 p hp ⟨j,hj,h2,hq⟩
 ·exact h i j t hj (by omega) h1 h2 p hp hq
abbrev ky(a b:Nat):List Key:=[Sum.inl (a:Int),Sum.inl (b:Int)]
theorem Zi7{a b c d:Nat}(h:ky a b=ky c d):a=c/\b=d:=by
 have h1:=List.cons.inj h
 have h2:=List.cons.inj h1.2
 have e1:=Sum.inl.inj h1.1
 have e2:=Sum.inl.inj h2.1
 omega
def Keys(kvs:List (List Key×V))(R:Nat->Nat->Prop):Prop:=∀p t:Nat,(ZX kvs (ky p t)).isSome=true↔R p t
theorem Keys.put{kvs:List (List Key×V)}{R:Nat->Nat->Prop}(h:Keys kvs R)(a b:Nat)(v:V):Keys (putK kvs (ky a b) v) (fun p t=>R p t\/(p=a/\t=b)):=by
 intro p t
 rw[ZaQ]
 by_cases e:ky p t=ky a b
 ·rw[if_pos e]
  exact⟨fun _=> .inr (Zi7 e),fun _=>rfl⟩
 ·rw[if_neg e,h p t]
  exact⟨.inl,fun z=>z.elim id fun⟨z1,z2⟩=>absurd (by rw[z1,z2]) e⟩
theorem Keys.iff{kvs:List (List Key×V)}{R S:Nat->Nat->Prop}(h:Keys kvs R)(e:∀p t,R p t↔S p t):Keys kvs S:=fun p t=>(h p t).trans (e p t)
end My
set_option maxHeartbeats 400000
namespace Cs
abbrev Tl:=List (Option Nat)
def mtB(es:List (Nat×Nat))(k j:Nat):Bool:=(es.getD k (0,0)).1==(es.getD j (0,0)).1||(es.getD k (0,0)).1==(es.getD j (0,0)).2||(es.getD k (0,0)).2==(es.getD j (0,0)).1||(es.getD k (0,0)).2==(es.getD j (0,0)).2
theorem Zbh(es:List (Nat×Nat))(k j:Nat):mtB es k j=mtB es j k:=by
 unfold mtB
 rw[Bool.eq_iff_iff]
 simp only[Bool.or_eq_true,beq_iff_eq]
 constructor
 ·rintro(((h|h)|h)|h)
  ·exact .inl (.inl (.inl h.symm))
  ·exact .inl (.inr h.symm)
  ·exact .inl (.inl (.inr h.symm))
  ·exact .inr h.symm
 ·rintro(((h|h)|h)|h)
  ·exact .inl (.inl (.inl h.symm))
  ·exact .inl (.inr h.symm)
  ·exact .inl (.inl (.inr h.symm))
  ·exact .inr h.symm
def tak(es:List (Nat×Nat))(tl:Tl)(k x:Nat):Bool:=(List.range tl.length).any fun j=>mtB es k j&&(tl.getD j none==some x)
def lft(es:List (Nat×Nat))(bs:List (List Nat))(m:Nat)(tl:Tl)(k:Nat):List Nat:=(List.range m).filter fun x=> !(bs.getD k []).contains x&& !tak es tl k x
def bare(tl:Tl):List Nat:=(List.range tl.length).filter fun k=>tl.getD k none==none
def lfs(es:List (Nat×Nat))(bs:List (List Nat))(m:Nat)(tl:Tl):List (Nat×List Nat):=(bare tl).map fun k=>(k,lft es bs m tl k)
def stp(b:Option (Nat×List Nat))(p:Nat×List Nat):Option (Nat×List Nat):=
 match b with
 |none=>some p
 |some q=>if p.2.length<q.2.length then some p else some q
theorem Zch{α:Type}{P:List α->Prop}(h0:P [])(hs:∀l a,P l->P (l++[a])) (l:List α):P l:=by
 have:∀l:List α,P l.reverse:=fun l=>by
  induction l with
  |nil=>exact h0
  |cons a l ih=>rw[List.reverse_cons];exact hs _ _ ih
 rw[<-List.reverse_reverse l]
 exact this _
def best(l:List (Nat×List Nat)):Option (Nat×List Nat):=l.foldl stp none
theorem Zfl(b:Option (Nat×List Nat))(p:Nat×List Nat):∃q,stp b p=some q:=by
 cases b with
 |none=>exact⟨_,rfl⟩
 |some q=>unfold stp;dsimp only;split<;>exact⟨_,rfl⟩
theorem YV(l:List (Nat×List Nat))(p:Nat×List Nat):best (l++[p])=stp (best l) p:=by unfold best;rw[List.foldl_append];rfl
theorem best_none{l:List (Nat×List Nat)}:best l=none↔l=[]:=by
 constructor
 ·intro h
  rcases List.eq_nil_or_concat l with rfl|⟨l',p,rfl⟩
  ·rfl
  ·rw[List.concat_eq_append,YV]at h
   obtain⟨q,hq⟩:=Zfl (best l') p
   rw[hq]at h;cases h
 ·rintro rfl;rfl
theorem Zai{l:List (Nat×List Nat)}:∀{q:Nat×List Nat},best l=some q->q∈l:=by
 refine Zch (P:=fun l=>∀{q:Nat×List Nat},best l=some q->q∈l) (fun{q} h=>by cases h) (fun l p ih{q} h=>?_) l
 rw[YV]at h
 cases hb:best l with
 |none=>rw[hb]at h;cases h;exact List.mem_append_right _ (.head _)
 |some r=>
  rw[hb]at h
  unfold stp at h
  dsimp only at h
  split at h
  ·cases h;exact List.mem_append_right _ (.head _)
  ·cases h;exact List.mem_append_left _ (ih hb)
theorem Zhv{l:List (Nat×List Nat)}:∀{i:Nat}{q:Nat×List Nat},l[i]?=some q->(∀(j:Nat) p,l[j]?=some p->q.2.length<=p.2.length/\(j<i->q.2.length<p.2.length))->best l=some q:=by
 refine Zch (P:=fun l=>∀{i:Nat}{q:Nat×List Nat},l[i]?=some q->(∀(j:Nat) p,l[j]?=some p->q.2.length<=p.2.length/\(j<i->q.2.length<p.2.length))->best l=some q) (fun{i q} h _=>by cases h) (fun l p ih{i q} h hm=>?_) l
 rw[YV]
 by_cases hi:i<l.length
 ·rw[List.getElem?_append_left hi]at h
  rw[ih h fun j p' hj=>hm j p' (by rw[List.getElem?_append_left (List.getElem?_eq_some_iff.mp hj).1];exact hj)]
  have:=(hm l.length p (by rw[List.getElem?_append_right (Nat.le_refl _),Nat.sub_self];rfl)).1
  unfold stp
  dsimp only
  rw[if_neg (by omega)]
 ·have e:=(List.getElem?_eq_some_iff.mp h).1
  rw[List.length_append]at e
  have e2:i=l.length:=by simp only[List.length_cons,List.length_nil]at e;omega
  subst e2
  rw[List.getElem?_append_right (Nat.le_refl _),Nat.sub_self]at h
  cases h
  cases hb:best l with
  |none=>rfl
  |some r=>
   obtain⟨j,hj⟩:=List.getElem?_of_mem (Zai hb)
   have hjl:=(List.getElem?_eq_some_iff.mp hj).1
   have:=(hm j r (by rw[List.getElem?_append_left hjl];exact hj)).2 hjl
   unfold stp
   dsimp only
   rw[if_pos this]
theorem Zac{tl:Tl}{t j:Nat}{o:Option Nat}(ht:t<tl.length):(tl.set t o).getD j none=if j=t then o else tl.getD j none:=by
 rw[List.getD_eq_getElem?_getD,List.getD_eq_getElem?_getD,List.getElem?_set]
 by_cases h:t=j
 ·subst h;rw[if_pos rfl,if_pos ht,if_pos rfl];rfl
 ·rw[if_neg h,if_neg (Ne.symm h)]
theorem tak_iff{es:List (Nat×Nat)}{tl:Tl}{k x:Nat}:tak es tl k x=true↔∃j,j<tl.length/\mtB es k j=true/\tl.getD j none=some x:=by
 unfold tak
 rw[List.any_eq_true]
 constructor
 ·rintro⟨j,hj,h⟩
  rw[Bool.and_eq_true,beq_iff_eq]at h
  exact⟨j,List.mem_range.mp hj,h⟩
 ·rintro⟨j,hj,h1,h2⟩
  exact⟨j,List.mem_range.mpr hj,by rw[Bool.and_eq_true,beq_iff_eq];exact⟨h1,h2⟩⟩
theorem ZdO{es:List (Nat×Nat)}{tl:Tl}{t k x y:Nat}(ht:t<tl.length)(hb:tl.getD t none=none):tak es (tl.set t (some x)) k y=(tak es tl k y||(mtB es k t&&(y==x))):=by
 rw[Bool.eq_iff_iff,Bool.or_eq_true,tak_iff,tak_iff,Bool.and_eq_true,beq_iff_eq]
 constructor
 ·rintro⟨j,hj,h1,h2⟩
  rw[List.length_set]at hj
  rw[Zac ht]at h2
  by_cases e:j=t
  ·subst e;rw[if_pos rfl]at h2;exact .inr ⟨h1,(Option.some.inj h2).symm⟩
  ·rw[if_neg e]at h2;exact .inl ⟨j,hj,h1,h2⟩
 ·rintro(⟨j,hj,h1,h2⟩|⟨h1,rfl⟩)
  ·refine⟨j,by rw[List.length_set];exact hj,h1,?_⟩
   rw[Zac ht,if_neg fun e=>by rw[e,hb]at h2;cases h2]
   exact h2
  ·exact⟨t,by rw[List.length_set];exact ht,h1,by rw[Zac ht,if_pos rfl]⟩
theorem ZgW{es:List (Nat×Nat)}{bs:List (List Nat)}{m:Nat}{tl:Tl}{t k x:Nat}(ht:t<tl.length)(hb:tl.getD t none=none):lft es bs m (tl.set t (some x)) k=if mtB es t k then(lft es bs m tl k).filter (fun y=>y !=x)else lft es bs m tl k:=by
 unfold lft
 split
 ·next h=>
  rw[List.filter_filter]
  refine List.filter_congr fun y _=>?_
  rw[ZdO ht hb,Zbh es k t,h]
  cases(bs.getD k []).contains y<;>cases tak es tl k y<;>cases hyx:(y==x)<;>simp[bne,hyx]
 ·next h=>
  refine List.filter_congr fun y _=>?_
  rw[ZdO ht hb,Zbh es k t,Bool.eq_false_iff.mpr h]
  simp
theorem Zb1{tl:Tl}{t x:Nat}(ht:t<tl.length):bare (tl.set t (some x))=(bare tl).filter (fun k=>k !=t):=by
 unfold bare
 rw[List.length_set,List.filter_filter]
 refine List.filter_congr fun k _=>?_
 rw[Zac ht]
 by_cases h:k=t
 ·subst h;simp
 ·rw[if_neg h];simp[h]
theorem ZgY{es:List (Nat×Nat)}{bs:List (List Nat)}{m:Nat}{tl:Tl}{t x:Nat}(ht:t<tl.length)(hb:tl.getD t none=none):
  lfs es bs m (tl.set t (some x))=((lfs es bs m tl).filter fun p=>p.1 !=t).map fun p=>(p.1,if mtB es t p.1 then p.2.filter (fun y=>y !=x)else p.2):=by
 unfold lfs
 rw[Zb1 ht,List.filter_map,List.map_map]
 refine List.map_congr_left fun k _=>?_
 show(k,_)=(k,_)
 rw[ZgW ht hb]
theorem bare_mem{tl:Tl}{k:Nat}:k∈bare tl↔k<tl.length/\tl.getD k none=none:=by
 unfold bare
 rw[List.mem_filter,List.mem_range,beq_iff_eq]
theorem Zev(tl:Tl):(bare tl).Nodup:=List.nodup_range.filter _
theorem Zb2{tl:Tl}{t x:Nat}(h:t∈bare tl):(bare (tl.set t (some x))).length+1=(bare tl).length:=by
 rw[Zb1 (bare_mem.mp h).1]
 have key:∀l:List Nat,l.Nodup->t∈l->(l.filter (fun k=>k !=t)).length+1=l.length:=by
  intro l
  induction l with
  |nil=>intro _ h;cases h
  |cons a l ih=>
   intro hn hm
   obtain⟨h1,h2⟩:=List.nodup_cons.mp hn
   rw[List.filter_cons]
   by_cases e:a=t
   ·subst e
    rw[if_neg (by simp)]
    have:l.filter (fun k=>k !=a)=l:=List.filter_eq_self.mpr fun k hk=>by
     simp only[bne_iff_ne]
     exact fun z=>h1 (z▸hk)
    rw[this];rfl
   ·rw[if_pos (by simpa using e)]
    have:=ih h2 ((List.mem_cons.mp hm).resolve_left (Ne.symm e))
    simp only[List.length_cons]
    omega
 exact key _ (Zev tl) h
theorem ZaO{es:List (Nat×Nat)}{bs:List (List Nat)}{m:Nat}{tl:Tl}{t:Nat}{ls:List Nat}(h:best (lfs es bs m tl)=some (t,ls)):t∈bare tl/\t<tl.length/\tl.getD t none=none/\ls=lft es bs m tl t:=by
 obtain⟨k,hk,e⟩:=List.mem_map.mp (Zai h)
 cases e
 exact⟨hk,(bare_mem.mp hk).1,(bare_mem.mp hk).2,rfl⟩
theorem ZbZ{es:List (Nat×Nat)}{bs:List (List Nat)}{m:Nat}{tl:Tl}(h:best (lfs es bs m tl)=none):∀k,k<tl.length->∃x,tl[k]?=some (some x):=by
 intro k hk
 have h1:bare tl=[]:=List.map_eq_nil_iff.mp (best_none.mp h)
 have h2:¬k∈bare tl:=by rw[h1];exact List.not_mem_nil
 rw[List.getElem?_eq_getElem hk]
 cases e:tl[k]with
 |none=>exact absurd (bare_mem.mpr ⟨hk,by rw[List.getD_eq_getElem?_getD,List.getElem?_eq_getElem hk,e];rfl⟩) h2
 |some x=>exact⟨x,rfl⟩
def br(g:Tl->Option Tl×Nat)(tl:Tl)(t:Nat):List Nat->Nat->Option Tl×Nat
 |[],c=>(none,c)
 |x::xs,c=>match g (tl.set t (some x))with
  |(some r,k)=>(some r,c+k)
  |(none,k)=>br g tl t xs (c+k)
def go(es:List (Nat×Nat))(bs:List (List Nat))(m:Nat):Nat->Tl->Option Tl×Nat
 |0,tl=>(some tl,1)
 |n+1,tl=>match best (lfs es bs m tl)with
  |none=>(some tl,1)
  |some (t,ls)=>br (go es bs m n) tl t ls 1
theorem ZaM{es:List (Nat×Nat)}{bs:List (List Nat)}{m n:Nat}{tl:Tl}(h:best (lfs es bs m tl)=none):go es bs m n tl=(some tl,1):=by
 cases n with
 |zero=>rfl
 |succ n=>unfold go;rw[h]
theorem Zab{es:List (Nat×Nat)}{bs:List (List Nat)}{m n:Nat}{tl:Tl}{t:Nat}{ls:List Nat}(h:best (lfs es bs m tl)=some (t,ls)):go es bs m (n+1) tl=br (go es bs m n) tl t ls 1:=by
 rw[go,h]
theorem Zgn{g:Tl->Option Tl×Nat}{tl:Tl}{t:Nat}:∀(xs:List Nat)(c:Nat),c<=(br g tl t xs c).2
 |[],c=>Nat.le_refl _
 |x::xs,c=>by
  unfold br
  split
  ·next h=>exact Nat.le_add_right _ _
  ·next k h=>exact Nat.le_trans (Nat.le_add_right _ _) (Zgn xs (c+k))
theorem go_pos{es:List (Nat×Nat)}{bs:List (List Nat)}{m n:Nat}{tl:Tl}:1<=(go es bs m n tl).2:=by
 cases n with
 |zero=>exact Nat.le_refl _
 |succ n=>
  cases h:best (lfs es bs m tl)with
  |none=>rw[ZaM h];exact Nat.le_refl _
  |some q=>
   obtain⟨t,ls⟩:=q
   rw[Zab h]
   exact Zgn ls 1
structure Good(es:List (Nat×Nat))(bs:List (List Nat))(m:Nat)(tl:Tl):Prop where
 len:tl.length=es.length
 own:∀k x,tl[k]?=some (some x)->x<m/\¬x∈bs.getD k []
 cln:∀i j x,i<j->tl[i]?=some (some x)->tl[j]?=some (some x)->mtB es i j=false
theorem Good.set{es:List (Nat×Nat)}{bs:List (List Nat)}{m:Nat}{tl:Tl}{t x:Nat}(g:Good es bs m tl)(ht:t<tl.length)(hx:x∈lft es bs m tl t):Good es bs m (tl.set t (some x)):=by
 unfold lft at hx
 rw[List.mem_filter,List.mem_range,Bool.and_eq_true,Bool.not_eq_true',Bool.not_eq_true']at hx
 obtain⟨h1,h2,h3⟩:=hx
 have key:∀j,j≠t->tl[j]?=some (some x)->mtB es t j=false:=fun j hj e=>by
  cases h:mtB es t j with
  |false=>rfl
  |true=>
   have hl:=(List.getElem?_eq_some_iff.mp e).1
   rw[tak_iff.mpr ⟨j,hl,h,by rw[List.getD_eq_getElem?_getD,e];rfl⟩]at h3
   cases h3
 have at_:∀k y,(tl.set t (some x))[k]?=some (some y)->(k=t/\y=x)\/(k≠t/\tl[k]?=some (some y)):=fun k y e=>by
  rw[List.getElem?_set]at e
  by_cases z:t=k
  ·rw[if_pos z,if_pos ht]at e
   exact .inl ⟨z.symm,(Option.some.inj (Option.some.inj e)).symm⟩
  ·rw[if_neg z]at e
   exact .inr ⟨Ne.symm z,e⟩
 refine⟨by rw[List.length_set];exact g.len,fun k y e=>?_,fun i j y hij e1 e2=>?_⟩
 ·rcases at_ k y e with⟨rfl,rfl⟩|⟨_,e⟩
  ·exact⟨h1,fun z=>by rw[List.contains_iff_mem.mpr z]at h2;cases h2⟩
  ·exact g.own k y e
 ·rcases at_ i y e1 with⟨rfl,rfl⟩|⟨n1,e1⟩
  ·rcases at_ j _ e2 with⟨rfl,_⟩|⟨n2,e2⟩
   ·omega
   ·exact key j n2 e2
  ·rcases at_ j y e2 with⟨z1,z2⟩|⟨n2,e2⟩
   ·rw[z1,Zbh];exact key i n1 (by rw[<-z2];exact e1)
   ·exact g.cln i j y hij e1 e2
theorem Zhd{es:List (Nat×Nat)}{bs:List (List Nat)}{m:Nat}:∀(n:Nat)(tl r:Tl),(bare tl).length<=n->Good es bs m tl->(go es bs m n tl).1=some r->Good es bs m r/\∀k,k<r.length->∃x,r[k]?=some (some x):=by
 intro n
 induction n with
 |zero=>
  intro tl r hb g h
  cases h
  refine⟨g,ZbZ (es:=es) (bs:=bs) (m:=m) ?_⟩
  rw[best_none]
  unfold lfs
  rw[List.eq_nil_of_length_eq_zero (Nat.le_zero.mp hb)]
  rfl
 |succ n ih=>
  intro tl r hb g h
  cases hq:best (lfs es bs m tl)with
  |none=>rw[ZaM hq]at h;cases h;exact⟨g,ZbZ hq⟩
  |some q=>
   obtain⟨t,ls⟩:=q
   rw[Zab hq]at h
   obtain⟨b1,b2,b3,b4⟩:=ZaO hq
   have key:∀(xs:List Nat)(c:Nat),(∀x∈xs,x∈ls)->(br (go es bs m n) tl t xs c).1=some r->Good es bs m r/\∀k,k<r.length->∃x,r[k]?=some (some x):=by
    intro xs
    induction xs with
    |nil=>intro c _ h;cases h
    |cons x xs ihx=>
     intro c hx h
     unfold br at h
     split at h
     ·next r' k hg=>
      cases h
      refine ih (tl.set t (some x)) r (by have:=Zb2 (x:=x) b1;omega) (g.set b2 (by rw[<-b4];exact hx x (.head _))) (by rw[hg])
     ·exact ihx _ (fun y hy=>hx y (.tail _ hy)) h
   exact key ls 1 (fun _ h=>h) h
end Cs
namespace My
def atB(e:Nat×Nat)(p:Nat):Bool:=p==e.1||p==e.2
theorem atB_iff{e:Nat×Nat}{p:Nat}:atB e p=true↔At e p:=by
 unfold atB At
 rw[Bool.or_eq_true,beq_iff_eq,beq_iff_eq]
def dg(es:List (Nat×Nat))(k p:Nat):Nat:=((List.range k).filter fun j=>atB (es.getD j (0,0)) p).length
theorem Zcw(es:List (Nat×Nat))(k p:Nat):dg es (k+1) p=dg es k p+if atB (es.getD k (0,0)) p then 1 else 0:=by
 unfold dg
 rw[List.range_succ,List.filter_append,List.length_append]
 congr 1
 rw[List.filter_cons]
 split<;>rfl
def IsMax(xs:List Int)(M:Int):Prop:=(xs=[]/\M=0)\/(M∈xs/\∀a∈xs,a<=M)
theorem IsMax.uniq{xs:List Int}{M M':Int}(h:IsMax xs M)(h':IsMax xs M'):M=M':=by
 rcases h with⟨e,h⟩|⟨h1,h2⟩<;>rcases h' with⟨e',h'⟩|⟨h1',h2'⟩
 ·omega
 ·rw[e]at h1';cases h1'
 ·rw[e']at h1;cases h1
 ·have:=h2 _ h1';have:=h2' _ h1;omega
def dl(es:List (Nat×Nat))(n:Nat):List Int:=(List.range n).map fun p:Nat=>(dg es es.length p:Int)
theorem ZgS{es:List (Nat×Nat)}{n:Nat}{M:Int}(h:IsMax (dl es n) M){p:Nat}(hp:p<n):(dg es es.length p:Int)<=M:=by
 have hm:(dg es es.length p:Int)∈dl es n:=List.mem_map.mpr ⟨p,List.mem_range.mpr hp,rfl⟩
 rcases h with⟨e,_⟩|⟨_,h⟩
 ·rw[e]at hm;cases hm
 ·exact h _ hm
theorem Zkk(es:List (Nat×Nat))(k p:Nat):dg es k p<=k:=by
 unfold dg
 exact Nat.le_trans (List.length_filter_le _ _) (by rw[List.length_range];exact Nat.le_refl _)
theorem ZaJ{es:List (Nat×Nat)}{n:Nat}{M:Int}(h:IsMax (dl es n) M):0<=M/\M<=es.length:=by
 rcases h with⟨_,h⟩|⟨h,_⟩
 ·omega
 ·obtain⟨p,_,rfl⟩:=List.mem_map.mp h
  have:=Zkk es es.length p
  omega
end My
namespace My
open PySem L2
def put{α:Type}(f:Nat->α)(k:Nat)(v:α):Nat->α:=fun i=>if i=k then v else f i
theorem Zfs{α:Type}(f:Nat->α)(k:Nat)(v:α):put f k v k=v:=by unfold put;rw[if_pos rfl]
theorem Zih{α:Type}(f:Nat->α){k i:Nat}(v:α)(h:i≠k):put f k v i=f i:=by unfold put;rw[if_neg h]
def lv(L:Nat->Nat)(n:Nat):List V:=(List.range n).map fun x:Nat=>V.int (L x:Int)
theorem Zbi(L:Nat->Nat)(n:Nat):(lv L n).length=n:=by unfold lv;rw[List.length_map,List.length_range]
theorem Zcr(L:Nat->Nat){n k:Nat}(h:k<n):(lv L n)[k]?=some (.int (L k:Int)):=by
 unfold lv
 rw[List.getElem?_map,List.getElem?_range h]
 rfl
theorem Zi0(L:Nat->Nat)(n k v:Nat):(lv L n).set k (.int (v:Int))=lv (put L k v) n:=by
 apply List.ext_getElem?
 intro i
 by_cases hi:i<n
 ·rw[Zcr _ hi,List.getElem?_set]
  by_cases e:k=i
  ·subst e
   rw[if_pos rfl,if_pos (by rw[Zbi];exact hi),Zfs]
  ·rw[if_neg e,Zcr _ hi,Zih _ _ (fun z=>e z.symm)]
 ·rw[List.getElem?_eq_none (by rw[List.length_set,Zbi];omega),List.getElem?_eq_none (by rw[Zbi];omega)]
def JO(es:List (Nat×Nat))(s:List Nat)(k:Nat):Nat:=((List.range k).filter fun j=>decide ((es.getD j (0,0)).1∈s)&&decide ((es.getD j (0,0)).2∈s)).length
theorem ZbL(es:List (Nat×Nat))(s:List Nat)(k:Nat):JO es s (k+1)=if(decide ((es.getD k (0,0)).1∈s)&&decide ((es.getD k (0,0)).2∈s))=true then JO es s k+1 else JO es s k:=by
 unfold JO
 rw[List.range_succ,List.filter_append,List.filter_cons]
 split
 ·rw[List.length_append];rfl
 ·simp
theorem Zcu(es:List (Nat×Nat))(s:List Nat)(k:Nat):JO es s k<=k:=by
 unfold JO
 exact Nat.le_trans (List.length_filter_le _ _) (by rw[List.length_range];exact Nat.le_refl _)
def half(s:List Nat):Nat:=(s.length-1)/2
def Zb3(es:List (Nat×Nat))(s:List Nat):Nat:=(JO es s es.length+half s-1)/half s
def subs:Nat->List (List Nat)
 |0=>[[]]
 |n+1=>subs n++(subs n).map fun l=>l++[n]
theorem Zc9:∀n,(subs n).length=2^n
 |0=>rfl
 |n+1=>by
  show(subs n++_).length=_
  rw[List.length_append,List.length_map,Zc9 n,Nat.pow_succ]
  omega
theorem Y0:∀n,∀l∈subs n,l.length<=n
 |0,l,h=>by rw[List.mem_singleton.mp h];exact Nat.le_refl _
 |n+1,l,h=>by
  rcases List.mem_append.mp h with z|z
  ·exact Nat.le_succ_of_le (Y0 n l z)
  ·obtain⟨m,hm,rfl⟩:=List.mem_map.mp z
   rw[List.length_append]
   exact Nat.succ_le_succ (Y0 n m hm)
theorem Zap:∀n,∀l∈subs n,l.Pairwise (·<·)/\∀x∈l,x<n
 |0,l,h=>by rw[List.mem_singleton.mp h];exact⟨List.Pairwise.nil,fun x z=>by cases z⟩
 |n+1,l,h=>by
  rcases List.mem_append.mp h with z|z
  ·obtain⟨a,b⟩:=Zap n l z
   exact⟨a,fun x hx=>Nat.lt_succ_of_lt (b x hx)⟩
  ·obtain⟨m,hm,rfl⟩:=List.mem_map.mp z
   obtain⟨a,b⟩:=Zap n m hm
   refine⟨List.pairwise_append.mpr ⟨a,List.pairwise_singleton _ _,fun x hx y hy=>?_⟩,fun x hx=>?_⟩
   ·rw[List.mem_singleton.mp hy]
    exact b x hx
   ·rcases List.mem_append.mp hx with z|z
    ·exact Nat.lt_succ_of_lt (b x z)
    ·rw[List.mem_singleton.mp z]
     exact Nat.lt_succ_self n
def parts(n:Nat):List (List Nat):=(subs n).filter fun l=>decide (3<=l.length)&&decide (l.length%2=1)
theorem parts_mem{n:Nat}{l:List Nat}:l∈parts n↔l∈subs n/\3<=l.length/\l.length%2=1:=by
 unfold parts
 rw[List.mem_filter,Bool.and_eq_true,decide_eq_true_eq,decide_eq_true_eq]
end My
set_option maxHeartbeats 1000000
namespace L2
open PySem PySem.Spec PyProof.Rows
section
variable{X:Cx}{pins:List (Addr×Obj)}{σ:St}{H:Hp}{s:Shared}{A:Around}{E:Value->Shared->Prop}
theorem Inv.freeze{d:Addr}{ob:Obj}{kvs:List (Key×V)}(I:Inv X pins σ H s)(hd:H d=some (.dK kvs))(ho:s.heap.get? d=some ob):Inv X pins σ (upd H d (.frz ob (.dK kvs))) s:=by
 have ne:∀c u,H c=some u->(∀ks,u≠.dK ks)->c≠d:=fun c u q n z=>by rw[z,hd]at q;exact n _ (Option.some.inj q).symm
 have no:∀c,H c=none->c≠d:=fun c q z=>by rw[z,hd]at q;cases q
 refine⟨I.ok,I.os,I.bare,⟨I.base.keep,I.base.slot,fun c o q n hx=>?_,I.base.there,fun c xs q=>?_,fun c o u q=>?_,fun c ps q=>?_⟩,I.loc,I.cell,?_,fun x c q=>?_,fun p hp=>?_,fun c u q=>?_,I.len⟩
 ·have z:=I.base.free c o q n hx
  rw[Zg (no c z)];exact z
 ·have z:=I.base.tups c xs q
  rw[Zg (ne c _ z fun ks=>by simp)];exact z
 ·have z:=I.base.frzs c o u q
  rw[Zg (ne c _ z fun ks=>by simp)];exact z
 ·obtain⟨more,z⟩:=I.base.tbls c ps q
  exact⟨more,by rw[Zg (ne c _ z fun ks=>by simp)];exact z⟩
 ·rw[Zg (no _ I.free)];exact I.free
 ·rw[Zg (no _ (I.freeC x c q))];exact I.freeC x c q
 ·obtain⟨p1,p2,p3⟩:=I.pin p hp
  exact⟨p1,by rw[Zg (no _ p2)];exact p2,p3⟩
 ·by_cases hc:c=d
  ·subst hc;rw[Zf]at q;cases q;exact⟨ho,I.hok c _ hd⟩
  ·rw[Zg hc]at q
   refine(I.hok c u q).stay (fun _ _ _ r=>r) (fun e r=>?_) fun e xs r=>?_
   ·rw[Zg (ne e _ r fun ks=>by simp)];exact r
   ·rw[Zg (ne e _ r fun ks=>by simp)];exact r
theorem Inv.thaw{s':Shared}{d:Addr}{ob:Obj}{kvs:List (Key×V)}(I0:Inv X pins σ H s)(hd:H d=some (.dK kvs))(I:Inv X pins σ (upd H d (.frz ob (.dK kvs))) s'):Inv X pins σ H s':=by
 have ne:∀c u,upd H d (.frz ob (.dK kvs)) c=some u->(∀o v,u≠.frz o v)->H c=some u:=fun c u q n=>by
  by_cases z:c=d
  ·rw[z,Zf]at q;exact absurd (Option.some.inj q).symm (n _ _)
  ·rw[Zg z]at q;exact q
 have no:∀c,upd H d (.frz ob (.dK kvs)) c=none->H c=none:=fun c q=>by
  by_cases z:c=d
  ·rw[z,Zf]at q;cases q
  ·rw[Zg z]at q;exact q
 refine⟨I.ok,I.os,I.bare,⟨I.base.keep,I.base.slot,fun c o q n hx=>no c (I.base.free c o q n hx),I.base.there,fun c xs q=>ne c _ (I.base.tups c xs q) fun o v=>by simp,fun c o u q=>I0.base.frzs c o u q,fun c ps q=>?_⟩,I.loc,I.cell,no _ I.free,fun x c q=>no _ (I.freeC x c q),fun p hp=>?_,fun c u q=>?_,I.len⟩
 ·obtain⟨more,z⟩:=I.base.tbls c ps q
  exact⟨more,ne c _ z fun o v=>by simp⟩
 ·obtain⟨p1,p2,p3⟩:=I.pin p hp
  exact⟨p1,no _ p2,p3⟩
 ·have st:ObjOk X.prog X.w (upd H d (.frz ob (.dK kvs))) s'.heap c u:=by
   by_cases hc:c=d
   ·subst hc;rw[hd]at q;cases q
    exact(I.hok c _ Zf).2
   ·exact I.hok c u (by rw[Zg hc];exact q)
  exact st.stay (fun _ _ _ r=>r) (fun e r=>ne e _ r fun o v=>by simp) fun e xs r=>ne e _ r fun o v=>by simp
variable{I S d:Addr}{vs:List (Key×Value)}{ep:Nat}{ob:Obj}{kvs:List (Key×V)}{f:Addr}{R:Result->Shared->Prop}
theorem ZeF(kf:Nat->Int)(hh:A.handled=none)(hfz:H d=some (.frz ob (.dK kvs)))(hat:∀h:Heap,h.get? d=some ob->h.DictAt (Z6 X.prog X.w) d vs ep) (hdI:d≠I) (hSI:S≠I)
  (fI:FpOk X pins H I) (fS:FpOk X pins H S)
  (turn:∀(i:Nat)(v:Value),(∃k x,vs[i]?=some (k,x)/\(Z6 X.prog X.w).is k v=true)->Zal X pins σ H A.in1 (.ref f) v (kf i))
  (hR:∀(i:Nat)(v:Value) s',(∃k x,vs[i]?=some (k,x)/\(Z6 X.prog X.w).is k v=true)->(∀j,j<vs.length->kf i<=kf j/\(j<i->kf i<kf j))->Inv X pins σ H s'->R (.ok (.ret v)) s'):
  ∀(r j i:Nat)(s:Shared)(vb:Value)(tb:Tok)(c:Nat),vs.length-(j+1)=r->j+1<=vs.length->Inv X pins σ H s->
   s.heap.get? S=some (seqObj "list" #[vb,.int (kf i) tb] c)->s.heap.IsKeyIter I d (j+1) vs.length ep->(∃k x,vs[i]?=some (k,x)/\(Z6 X.prog X.w).is k vb=true)->i<=j->(∀j',j'<=j->kf i<=kf j'/\(j'<i->kf i<kf j'))->
   codeAny (model X.prog X.w) A (.builtin "min.loop" ⟨[.ref I,.ref f,.ref S],[]⟩) R s:=by
 have hname:(toString "min"++toString ".loop":String)="min.loop":=by decide
 have W:=Walks.dictKeys (knd:=Z6 X.prog X.w) (A:=A.in1) hh I d hdI vs ep
 have dat:∀{s:Shared},Inv X pins σ H s->s.heap.DictAt (Z6 X.prog X.w) d vs ep:=fun J=>hat _ (J.hok d _ hfz).1
 intro r
 induction r with
 |zero=>
  intro j i s vb tb c hr hj J hS hit hvb hij hbest
  have hin:j+1=vs.length:=by omega
  refine codeAny_builtin PySem.F.entry_min_loop ?_
  rw[Around.under_plainId PySem.F.plain_min_loop _]
  show wpAny _ A.in1 (seqItems? (.ref S)>>=_) _ _ _
  refine wpAny_bind (wpAny_seqItems hS rfl ?_)
  show wpAny _ A.in1 (tryCatch (pyNext (.ref I)) _>>=_) _ _ _
  refine wpAny_bind (wpAny_tryCatch (W.done _ _ _ ⟨by rw[<-hin];rw[<-hin]at hit;exact hit,dat J⟩ fun h' tk' hk'=>?_))
  have J1:Inv X pins σ H {s with heap:=h',toks:=tk'}:=J.turned (fun b o hb q=>hk' b o (by simpa using hb) q) fI.1 fI.2.1 fI.2.2.2.1 fI.2.2.2.2.1 fI.2.2.2.2.2
  have hS':=hk' S _ (by simpa using hSI) hS
  have s1:=Heap.SameBut.update h' S (Obj.mapSeq fun _=>(#[]:Array Value))
  show wpAny _ A.in1 (updateSeq S (fun _=>#[])>>=_) _ _ _
  refine wpAny_bind ?_
  refine wpAny_updateSeq hS' rfl (wpAny_bind (wpAny_letGo (wpAny_pure ?_)))
  exact hR i vb _ hvb (fun j' hj'=>hbest j' (by omega)) (J1.own1 fS s1)
 |succ r ih=>
  intro j i s vb tb c hr hj J hS hit hvb hij hbest
  have hlt:j+1<vs.length:=by omega
  refine codeAny_builtin PySem.F.entry_min_loop ?_
  rw[Around.under_plainId PySem.F.plain_min_loop _]
  show wpAny _ A.in1 (seqItems? (.ref S)>>=_) _ _ _
  refine wpAny_bind (wpAny_seqItems hS rfl ?_)
  show wpAny _ A.in1 (tryCatch (pyNext (.ref I)) _>>=_) _ _ _
  refine wpAny_bind (wpAny_tryCatch (W.item (j+1) _ _ _ hlt ⟨hit,dat J⟩ fun v h' tk' hP hst' hk'=>?_))
  obtain⟨oI',hoI',hoc,hod⟩:=id hst'.1
  have J1:Inv X pins σ H {s with heap:=h',toks:=tk'}:=J.turned (fun b o hb q=>hk' b o (by simpa using hb) q) fI.1 fI.2.1 fI.2.2.2.1 fI.2.2.2.2.1 fI.2.2.2.2.2
  have hS':=hk' S _ (by simpa using hSI) hS
  have Jp:Inv X (pins++[(S,seqObj "list" #[vb,.int (kf i) tb] c),(I,oI')]) σ H {s with heap:=h',toks:=tk'}:=J1.pins_of fun p hp=>by
   rcases List.mem_append.mp hp with z|z
   ·exact J1.pin p (List.mem_append_right _ z)
   ·rcases List.mem_cons.mp z with z|z
    ·rw[z];exact fS.pin1 J1 hS' fun v z=>nomatch z
    ·rw[List.mem_singleton.mp z];exact fI.pin1 J1 hoI' fun v z=>by rw[hod]at z;cases z
  show wpAny _ A.in1 (tryCatch (holding [v] (call (.ref f) [v])) _>>=_) _ _ _
  refine wpAny_bind (wpAny_tryCatch (wpAny_holding (wpAny_mono (turn (j+1) v hP _ _ Jp) (fun x s'' he=>?_) fun _ _ hF=>hF.elim)))
  obtain⟨⟨t2,rfl⟩,J2⟩:=he
  have nS2:s''.heap.get? S=some (seqObj "list" #[vb,.int (kf i) tb] c):=(J2.pin (S,seqObj "list" #[vb,.int (kf i) tb] c) (List.mem_append_right _ (List.mem_append_right _ (.head _)))).1
  have nI2:s''.heap.get? I=some oI':=(J2.pin (I,oI') (List.mem_append_right _ (List.mem_append_right _ (.tail _ (.head _))))).1
  have J3:=J2.unpinned
  show wpAny _ A.in1 (tryCatch (holding [v,.int (kf (j+1)) t2] (richCompare .Lt (.int (kf (j+1)) t2) (.int (kf i) tb)>>=_)) _>>=_) _ _ _
  refine wpAny_bind (wpAny_tryCatch (wpAny_holding (wpAny_bind (CmpOf.ints_lt (prog:=X.prog) (w:=X.w) (A:=A.in1) (P:=fun i v=>∃t,v= .int (kf i) t) kf (fun i v h=>h) (j+1) i _ _ _ _ _ ⟨t2,rfl⟩ ⟨tb,rfl⟩ ?_))))
  refine wpAny_bind (wpAny_holding (wpAny_truthy_bool ?_))
  refine wpAny_bind (wpAny_letGo (wpAny_pure ?_))
  by_cases hb':kf (j+1)<kf i
  ·have s1:=Heap.SameBut.update s''.heap S (Obj.mapSeq fun _=>#[v,.int (kf (j+1)) t2])
   obtain⟨c2,hc2⟩:∃c2,(s''.heap.update S (Obj.mapSeq fun _=>#[v,.int (kf (j+1)) t2])).get? S=some (seqObj "list" #[v,.int (kf (j+1)) t2] c2):=⟨_,get?_update_seq nS2 fun _=>#[v,.int (kf (j+1)) t2]⟩
   simp only[hb',decide_true,if_true]
   refine wpAny_bind ?_
   refine wpAny_updateSeq nS2 rfl (wpAny_bind (wpAny_letGo ?_))
   rw[hname]
   refine wpAny_pure ⟨plainId_quiet PySem.F.plain_min_loop _,ih (j+1) (j+1) _ v t2 c2 (by omega) hlt (J3.own1 fS s1) hc2 ⟨oI',(s1.2 I hSI.symm).trans nI2,hoc,hod⟩ hP (Nat.le_refl _) fun j' hj'=>?_⟩
   by_cases e:j'=j+1
   ·subst e
    exact⟨by omega,fun _=>by omega⟩
   ·have hb1:=hbest j' (by omega)
    have hb2:=hb1.1
    exact⟨by omega,fun _=>by omega⟩
  ·simp only[hb',decide_false,Bool.false_eq_true,if_false]
   refine wpAny_bind (wpAny_letGo ?_)
   rw[hname]
   refine wpAny_pure ⟨plainId_quiet PySem.F.plain_min_loop _,ih (j+1) i _ vb tb c (by omega) hlt J3 nS2 ⟨oI',nI2,hoc,hod⟩ hvb (by omega) fun j' hj'=>?_⟩
   by_cases e:j'=j+1
   ·subst e
    exact⟨by omega,fun _=>by omega⟩
   ·exact hbest j' (by omega)
theorem ZgV{Q:Value->Shared->Prop}(kf:Nat->Int)(hh:X.A.handled=none)(J:Inv X pins σ H s)(lo:(d==sysModules)=false)(hfz:H d=some (.frz ob (.dK kvs)))(hat:∀h:Heap,h.get? d=some ob->h.DictAt (Z6 X.prog X.w) d vs ep) (hne:0<vs.length)
  (turn:∀(i:Nat)(v:Value),(∃k x,vs[i]?=some (k,x)/\(Z6 X.prog X.w).is k v=true)->Zal X pins σ H X.A.in1 (.ref f) v (kf i))
  (hQ:∀(i:Nat)(v:Value) s',(∃k x,vs[i]?=some (k,x)/\(Z6 X.prog X.w).is k v=true)->(∀j,j<vs.length->kf i<=kf j/\(j<i->kf i<kf j))->Inv X pins σ H s'->Q v s'):
  wpAny (model X.prog X.w) X.A (call (.builtin "min") [.ref d] [(Str.ofString "key",.ref f)]) Q E s:=by
 have hname:(toString "min"++toString ".loop":String)="min.loop":=by decide
 have dat:∀{s:Shared},Inv X pins σ H s->s.heap.DictAt (Z6 X.prog X.w) d vs ep:=fun J=>hat _ (J.hok d _ hfz).1
 have hld:d<s.heap.objs.size:=(dat J).lt_size
 refine kmk_tree PySem.F.kind_min PySem.F.plain_min PySem.F.entry_min (kmk_min_key _ _) ?_
 show wpAny _ X.A.in1 (Builtin.Builtins.bindParams "min" ["key","default"] 0 ⟨[],[(Str.ofString "key",.ref f)]⟩>>=_) _ _ s
 refine wpAny_bind (wpAny_of_eq (show Builtin.Builtins.bindParams "min" ["key","default"] 0 ⟨[],[(Str.ofString "key",.ref f)]⟩=pure [some (.ref f),none]from rfl) ?_)
 refine wpAny_bind (wpAny_pure ?_)
 refine wpAny_bind (wpAny_pyIter_dict lo (dat J) ?_)
 refine wpAny_bind (wpAny_newList ?_ (Nat.zero_le _))
 rw[hname]
 generalize hIo:({cls:= .type "dict_keyiterator",data:= .fields #[.ref d,.int 0 0,.int vs.length 0,.int ep 0]}:Obj)=itO
 have hS:(s.heap.push itO).objs.size=s.heap.objs.size+1:=size_push' ..
 have hdI:d≠s.heap.objs.size:=Nat.ne_of_lt hld
 have hSI:(s.heap.push itO).objs.size≠s.heap.objs.size:=by rw[hS];exact Nat.ne_of_gt (Nat.lt_succ_self _)
 have fI:FpOk X pins H s.heap.objs.size:=J.fpOk (Nat.le_refl _) (J.hok.fresh (Nat.le_refl _))
 have fS:FpOk X pins H (s.heap.push itO).objs.size:=by rw[hS];exact J.fpOk (Nat.le_succ _) (J.hok.fresh (Nat.le_succ _))
 have J0:Inv X pins σ H {s with heap:=(s.heap.push itO).push (seqObj "list" #[] 0)}:=J.kept (t':=s.toks) fun b u e=>Heap.get?_push_of_some _ (Heap.get?_push_of_some _ e)
 refine wpAny_pure ⟨plainId_quiet PySem.F.plain_min_loop _,?_⟩
 have gI:((s.heap.push itO).push (seqObj "list" #[] 0)).get? s.heap.objs.size=some itO:=Heap.get?_push_of_some _ (Heap.get?_push_size _ (by rw[<-hIo];rfl))
 have gS:((s.heap.push itO).push (seqObj "list" #[] 0)).get? (s.heap.push itO).objs.size=some (seqObj "list" #[] 0):=Heap.get?_push_size _ rfl
 have W:=Walks.dictKeys (knd:=Z6 X.prog X.w) (A:=X.A.in1) hh s.heap.objs.size d hdI vs ep
 refine codeAny_builtin PySem.F.entry_min_loop ?_
 rw[Around.under_plainId PySem.F.plain_min_loop _]
 show wpAny _ X.A.in1 (seqItems? (.ref _)>>=_) _ _ _
 refine wpAny_bind (wpAny_seqItems gS rfl ?_)
 show wpAny _ X.A.in1 (tryCatch (pyNext (.ref s.heap.objs.size)) _>>=_) _ _ _
 refine wpAny_bind (wpAny_tryCatch (W.item 0 _ _ _ hne ⟨⟨_,gI,by rw[<-hIo],by rw[<-hIo];rfl⟩,dat J0⟩ fun v h' tk' hP hst' hk'=>?_))
 obtain⟨oI',hoI',hoc,hod⟩:=id hst'.1
 have J1:Inv X pins σ H {s with heap:=h',toks:=tk'}:=J0.turned (fun b o hb q=>hk' b o (by simpa using hb) q) fI.1 fI.2.1 fI.2.2.2.1 fI.2.2.2.2.1 fI.2.2.2.2.2
 have hS':=hk' _ _ (by simpa using hSI) gS
 have Jp:Inv X (pins++[((s.heap.push itO).objs.size,seqObj "list" #[] 0),(s.heap.objs.size,oI')]) σ H {s with heap:=h',toks:=tk'}:=J1.pins_of fun p hp=>by
  rcases List.mem_append.mp hp with z|z
  ·exact J1.pin p (List.mem_append_right _ z)
  ·rcases List.mem_cons.mp z with z|z
   ·rw[z];exact fS.pin1 J1 hS' fun v z=>nomatch z
   ·rw[List.mem_singleton.mp z];exact fI.pin1 J1 hoI' fun v z=>by rw[hod]at z;cases z
 show wpAny _ X.A.in1 (tryCatch (holding [v] (call (.ref f) [v])) _>>=_) _ _ _
 refine wpAny_bind (wpAny_tryCatch (wpAny_holding (wpAny_mono (turn 0 v hP _ _ Jp) (fun x s'' he=>?_) fun _ _ hF=>hF.elim)))
 obtain⟨⟨t2,rfl⟩,J2⟩:=he
 have nS2:s''.heap.get? (s.heap.push itO).objs.size=some (seqObj "list" #[] 0):=(J2.pin ((s.heap.push itO).objs.size,seqObj "list" #[] 0) (List.mem_append_right _ (List.mem_append_right _ (.head _)))).1
 have nI2:s''.heap.get? s.heap.objs.size=some oI':=(J2.pin (s.heap.objs.size,oI') (List.mem_append_right _ (List.mem_append_right _ (.tail _ (.head _))))).1
 have s1:=Heap.SameBut.update s''.heap (s.heap.push itO).objs.size (Obj.mapSeq fun _=>#[v,.int (kf 0) t2])
 obtain⟨c2,hc2⟩:∃c2,(s''.heap.update (s.heap.push itO).objs.size (Obj.mapSeq fun _=>#[v,.int (kf 0) t2])).get? (s.heap.push itO).objs.size=some (seqObj "list" #[v,.int (kf 0) t2] c2):=⟨_,get?_update_seq nS2 fun _=>#[v,.int (kf 0) t2]⟩
 show wpAny _ X.A.in1 (updateSeq (s.heap.push itO).objs.size (fun _=>#[v,.int (kf 0) t2])>>=_) _ _ _
 refine wpAny_bind ?_
 refine wpAny_updateSeq nS2 rfl ?_
 rw[hname]
 refine wpAny_pure ⟨plainId_quiet PySem.F.plain_min_loop _,ZeF kf hh hfz hat hdI hSI fI fS turn hQ _ 0 0 _ v t2 c2 rfl hne (J2.unpinned.own1 fS s1) hc2 ⟨oI',(s1.2 _ hSI.symm).trans nI2,hoc,hod⟩ hP (Nat.le_refl _) fun j' hj'=>?_⟩
 have e:j'=0:=by omega
 subst e
 exact⟨by omega,fun h=>absurd h (Nat.lt_irrefl _)⟩
end
theorem ZeZ:bootBuiltins "min"=some (.builtin "min"):=by decide+kernel
def ZdT(P:Addr)(lpos:Pos)(qual:Str)(bs:List (Option Nat))(te:TE)(σ:St)(Q:VK):V->Hp->Prop:=fun x H1=>∃(d:Addr)(kvs:List (Key×V))(ns:List Int)(g:Int->Int)(fv:List V),x= .ref d/\H1 d=some (.dK kvs)/\kvs.map (·.1)=ns.map Sum.inl/\0<ns.length/\TabI P lpos qual H1/\bst bs σ=fv.map some/\
 (∀n∈ns,∀H3,(∀b o,b≠d->b≠P->H1 b=some o->H3 b=some o)->Rd H3 d (.dK kvs)->te (some (.int n)::fv.map some) H3 fun v H4=>v= .int (g n)/\H4=H3)/\
 ∀H2,Gr P lpos qual H1 H2->∀(i:Nat) n,ns[i]?=some n->(∀(j:Nat) m,ns[j]?=some m->g n<=g m/\(j<i->g n<g m))->Q (.int n) H2
def Zg0(P:Addr)(lpos:Pos)(qual:Str)(bs:List (Option Nat))(ta te:TE):TE:=fun σ H Q=>ta σ H (ZdT P lpos qual bs te σ Q)
theorem ZeB{X:Cx}{k:Nat}{scope:Scope}{cl:List (Str×Addr)}{fr:List Str}{bs:List (Option Nat)}{x:Str}{params:Arguments}{body arg:Expr}{c P:Addr}{qual:Str}{lpos kpos pos p:Pos}{ta te:TE}
  (B:Blk X scope cl fr bs)(L:Lam x fr params scope)(hbm:BM X.mg X.base)(hcode:X.env.code= .ref c)(hC:PySem.W.codeHdIn X.K c P=true)(hq0:X.env.qual++"<lambda>"=qual)(hdef:defaultsOf params X.env=([],[]))
  (hr:Room (k+3) X.A)(hg:Gl X "min")(hm:X.mg "min"=none)(ha:PE X arg ta)
  (hbody:∀(f c':Addr)(A:Around)(s:Shared)(H:Hp),Room k (A.deeper (PySem.W.envX qual scope s.heap.objs.size f (.ref c') cl))->PE (Zda X.prog X.w X.K X.mg X.base (x::fr) qual scope cl f c' A X.stack s H) body te)
  (hs:starEach [arg] X.env=[(false,eval arg X.env)]:=by rfl):
  PE X (.Call (.Name "min" p) [arg] [⟨some "key",.Lambda params body scope lpos,kpos⟩] pos) (Zg0 P lpos qual bs ta te):=by
 intro pins s σ H Q I h
 refine wpAny_Call_Name_kw (Jh I hg hm ZeZ ?_)
 refine callWith_kw (id:="min") (thn ((ZaH ha Za hs:PA X [arg] (YS ta tNil)) pos pins s σ H (Zea (ZdT P lpos qual bs te σ Q)) I h) fun us s1⟨vs,H1,I1,r1,q1⟩=>?_) (by rw[hs];rfl) (by rw[hs];rfl)
 obtain⟨x1,rfl,q1⟩:=Zbe q1
 obtain⟨u1,rfl,ru⟩:=vals1 r1
 obtain⟨d,kvs,ns,g,fv,rfl,hd,hkn,hne,htab,hfv,qk,qd⟩:=q1
 cases ru
 show wpAny _ _ (evalAll [(do let v<-eval (.Lambda params body scope lpos) X.env;standAt pos;pure v)]) _ _ s1
 refine wpAny_evalAll_cons (wpAny_bind (ZcP I1 hbm B.clos hcode hC hq0 hdef htab fun f c' pm ctv s2 H2 I2 gr hf hfs hfn hc=>wpAny_bind (wpAny_standAt (wpAny_pure (wpAny_evalAll_nil ?_)))))
 show wpAny _ _ (call (.builtin "min") [.ref d] [(Str.ofString "key",.ref f)]) _ _ s2
 have hdP:d≠P:=fun z=>by
  subst z
  rcases htab with t|⟨c',t,_⟩
  ·rw[hd]at t;cases t
  ·rw[hd]at t;cases t
 have hd2:H2 d=some (.dK kvs):=gr.keep _ _ hd hdP
 obtain⟨z,lo,ws,rel,dd⟩:=Zeo I2.hok hd2
 obtain⟨ep,dd⟩:=dd.dictAt
 obtain⟨ob,hob⟩:∃ob,s2.heap.get? d=some ob:=let⟨o,_,ho,_⟩:=dd;⟨o,ho⟩
 have hat:∀h:Heap,h.get? d=some ob->h.DictAt (Z6 X.prog X.w) d ws ep:=fun h e=>dd.at' fun o q=>by rw[hob]at q;cases q;exact e
 have I2z:=I2.freeze hd2 hob
 have hkl:kvs.length=ns.length:=by have:=congrArg List.length hkn;simpa using this
 have hvl:kvs.length=ws.length:=Paired.length rel
 have hkeys:ws.map (·.1)=ns.map (Sum.inl:Int->Key):=by
  rw[<-hkn]
  have:∀{kvs:List (Key×V)}{vs:List (Key×Value)},KV kvs vs->vs.map (·.1)=kvs.map (·.1):=by
   intro kvs vs r
   induction r with
   |nil=>rfl
   |cons h _ ih=>rw[List.map_cons,List.map_cons,ih,h.1]
  exact this rel
 have hkey:∀(i:Nat)(v:Value),(∃k x,ws[i]?=some (k,x)/\(Z6 X.prog X.w).is k v=true)->∃n t,ns[i]?=some n/\v= .int n t:=by
  rintro i v ⟨k,x,hi,hv⟩
  have h1:(ws.map (·.1))[i]?=some k:=by rw[List.getElem?_map,hi];rfl
  rw[hkeys,List.getElem?_map]at h1
  cases hn:ns[i]? with
  |none=>rw[hn]at h1;cases h1
  |some m=>
   rw[hn]at h1
   cases h1
   obtain⟨t,e⟩:=Value.isInt_shape (k:=m) (v:=v) hv
   exact⟨m,t,rfl,e⟩
 have hfd:f≠d:=fun z=>by rw[z,hd2]at hfn;cases hfn
 have ff:FpOk X pins (upd H2 d (.frz ob (.dK kvs))) f:=I1.fpOk hfs (by rw[Zg hfd];exact hfn)
 have I2':Inv X (pins++[(f,PySem.W.kla_obj "<lambda>" qual params body scope cl pm c' ctv)]) σ (upd H2 d (.frz ob (.dK kvs))) s2:=I2z.pins_of fun p hp=>by
  rcases List.mem_append.mp hp with z|z
  ·exact I2z.pin p (List.mem_append_right _ z)
  ·rw[List.mem_singleton.mp z]
   exact ff.pin1 I2z hf fun v z=>nomatch z
 have hc2:upd H2 d (.frz ob (.dK kvs)) c'=some (Zfe qual c'):=by rw[Zg fun z=>by rw[z,hd2]at hc;cases hc];exact hc
 refine ZgV (fun i=>g (ns.getD i 0)) hr.hd I2' lo Zf hat (by omega) (fun i v hv s' pl I'=>?_) fun i v s' hv hb I'=>?_
 ·obtain⟨n,t,hn,rfl⟩:=hkey i v hv
  have pf:=I'.pin (f,PySem.W.kla_obj "<lambda>" qual params body scope cl pm c' ctv) (List.mem_append_right _ (List.mem_append_left _ (List.mem_append_right _ (.head _))))
  have hcd:s'.heap.CodeRec (.ref c') qual:=(show ObjOk X.prog X.w (upd H2 d (.frz ob (.dK kvs))) s'.heap c' (Zfe qual c')from I'.hok c' _ hc2).1
  have hr1:Room (k+1) X.A.in1:=(hr.in1).mono (by omega)
  have hgn:g (ns.getD i 0)=g n:=by rw[List.getD_eq_getElem?_getD,hn];rfl
  rw[hgn]
  refine wpAny_call (codeAny_mono (Zeg (v:= .int n) L hr1 I'.env0.in1 pf.1 hcd (fun y z c h1 h2=>I'.ok.inj y z c (B.c1 h1) (B.c1 h2)) B.cl2 (fun y c h=>⟨I'.cell y c (B.c1 h),I'.freeC y c (B.c1 h)⟩) (ZbT B I' hfv) ⟨t,rfl⟩ (hbody f c' _ s' _ (hr1.deeper _)) (qk n (List.mem_of_getElem? hn) _ (fun b o hb hP e=>by rw[Zg hb];exact gr.keep _ _ e hP) (.inr ⟨ob,Zf⟩))) fun r s'' hq=>?_)
  cases r with
  |error e=>exact hq.elim
  |ok fl=>
   cases fl with
   |next=>exact False.elim hq
   |brk=>exact False.elim hq
   |cont=>exact False.elim hq
   |ret u=>
    obtain⟨v',H',J,r',rfl,rfl⟩:=I'.after hq
    exact⟨r',J⟩
 ·obtain⟨n,t,hn,rfl⟩:=hkey i v hv
  have hgn:g (ns.getD i 0)=g n:=by rw[List.getD_eq_getElem?_getD,hn];rfl
  refine⟨.int n,H2,I2.thaw hd2 I'.unpinned,⟨t,rfl⟩,qd H2 gr i n hn fun j m hm=>?_⟩
  have hj:j<ns.length:=(List.getElem?_eq_some_iff.mp hm).1
  have:=hb j (by omega)
  rw[hgn,List.getD_eq_getElem?_getD,hm]at this
  exact this
end L2
set_option maxHeartbeats 1000000
namespace L2
open PySem PySem.Spec PyProof.Rows
section
variable{X:Cx}
def ZO(ps:List (Key×V)):List (Key×V):=ps.foldl (fun acc p=>putK acc p.1 p.2) []
def Zif(K:PySem.W.Frag):List V->Hp->VK->Prop:=fun xs H Q=>∃p ys,∃ps:List (Key×V),xs=[.ref p]/\SqL K H p ys/\ys.length=ps.length/\ys.length<=1000/\
 (∀(i:Nat) y pr,ys[i]?=some y->ps[i]?=some pr->∃b,y= .ref b/\H b=some (.tup [kV pr.1,pr.2]))/\∀q H',Same H H'->H q=none->H' q=some (.dK (ZO ps))->Q (.ref q) H'
theorem Zbq(ps:List (Key×V)):(ZO ps).length<=ps.length:=by
 have key:∀(ps acc:List (Key×V)),(ps.foldl (fun acc p=>putK acc p.1 p.2) acc).length<=acc.length+ps.length:=by
  intro ps
  induction ps with
  |nil=>intro acc;exact Nat.le_refl _
  |cons p ps ih=>
   intro acc
   have h1:=ih (putK acc p.1 p.2)
   have h2:=YL acc p.1 p.2
   rw[List.length_cons]
   show(ps.foldl (fun acc p=>putK acc p.1 p.2) (putK acc p.1 p.2)).length<=_
   omega
 have:=key ps []
 simpa[ZO]using this
theorem JF{ps:List (Key×V)}{kv:Nat->Key×Value}(h:∀i,(hi:i<ps.length)->(kv i).1=ps[i].1/\RelV ps[i].2 (kv i).2):∀n,n<=ps.length->KV (ZO (ps.take n)) (DictL.upTo kv n)
 |0,_=> .nil
 |n+1,hn=>by
  obtain⟨h1,h2⟩:=h n (by omega)
  rw[List.take_add_one,List.getElem?_eq_getElem (by omega),DictL.upTo_succ]
  unfold ZO
  rw[List.foldl_append]
  have ih:=JF h n (by omega)
  show KV (putK (ZO (ps.take n)) ps[n].1 ps[n].2) _
  rw[h1]
  exact ih.put _ h2
theorem Zb0{k:Nat}(hr:Room k X.A):CallR X (.type "dict") (Zif X.K):=by
 intro pins s σ H xs us Q I r h
 obtain⟨p,ys,ps,rfl,hp,hlen,h1000,hk,q⟩:=h
 obtain⟨u,rfl,rx⟩:=vals1 r
 cases(show u=Value.ref p from rx)
 obtain⟨vs,rv,pl,hz⟩:=I.list hp
 have hvl:=rv.length
 have ex:∀i:Nat,∃pr:Key×Value,∀(hi:i<ps.length),pr.1=ps[i].1/\RelV ps[i].2 pr.2/\∀v,vs[i]?=some v->∃b,v= .ref b/\DictL.PairAt (Z6 X.prog X.w) s.heap b pr:=fun i=>by
  by_cases hi:i<ps.length
  ·have hy:ys[i]?=some ys[i]:=List.getElem?_eq_getElem (by omega)
   obtain⟨b,eb,hb⟩:=hk i _ _ hy (List.getElem?_eq_getElem hi)
   obtain⟨u2,e2,r2⟩:=rv.get hy
   obtain⟨_,its,ri,o,ho,hc,n,hd⟩:=I.hok b _ hb
   obtain⟨u1,u3,rfl,ra,rb⟩:=vals2 ri
   refine⟨(ps[i].1,u3),fun _=>⟨rfl,rb,fun v hv=>?_⟩⟩
   rw[hv]at e2
   cases e2
   rw[eb]at r2
   exact⟨b,r2,o,u1,n,ho,hc,hd,Zaa ra⟩
  ·exact⟨(.inl 0,.none),fun h=>absurd h hi⟩
 obtain⟨kv,hkv⟩:=Classical.axiomOfChoice ex
 obtain⟨o,n,ho,hc,hdn,hd⟩:=pl
 refine DictL.call_dict_list (knd:=Z6 X.prog X.w) (kv:=kv) hr.hd ⟨o,n,ho,hc,hdn,hd⟩ (fun i v hv=>?_) (by rw[List.size_toArray];omega) fun h' tk hD kp=>?_
 ·have hv':vs[i]?=some v:=by simpa using hv
  have hi:i<vs.length:=(List.getElem?_eq_some_iff.mp hv').1
  exact(hkv i (by omega)).2.2 v hv'
 ·have esz:vs.toArray.size=ps.length:=by rw[List.size_toArray];omega
  rw[esz]at hD
  have rel:=JF (ps:=ps) (kv:=kv) (fun i hi=>⟨(hkv i hi).1,(hkv i hi).2.1⟩) ps.length (Nat.le_refl _)
  rw[List.take_length]at rel
  have hlp:=Zbq ps
  refine⟨.ref s.heap.objs.size,_,I.laid (t':=tk) (o:= .dK (ZO ps)) kp (Nat.le_refl _) ?_,rfl,q _ _ (ZI (I.hok.fresh (Nat.le_refl _))) (I.hok.fresh (Nat.le_refl _)) Zf⟩
  exact Zbw (Yq (by omega)) (beq_eq_false_iff_ne.mpr (Ne.symm (Nat.ne_of_lt I.big))) rel hD
theorem Zb8(ps:List (Key×V))(k:Key):(ZX (ZO ps) k).isSome=true↔∃p∈ps,p.1=k:=by
 have key:∀(ps acc:List (Key×V)),(ZX (ps.foldl (fun acc p=>putK acc p.1 p.2) acc) k).isSome=true↔(ZX acc k).isSome=true\/∃p∈ps,p.1=k:=by
  intro ps
  induction ps with
  |nil=>intro acc;exact⟨.inl,fun h=>h.elim id fun⟨p,hp,_⟩=>by cases hp⟩
  |cons p ps ih=>
   intro acc
   show(ZX (ps.foldl (fun acc p=>putK acc p.1 p.2) (putK acc p.1 p.2)) k).isSome=true↔_
   rw[ih,ZaQ]
   by_cases e:k=p.1
   ·rw[if_pos e]
    exact⟨fun _=> .inr ⟨p,.head _,e.symm⟩,fun _=> .inl rfl⟩
   ·rw[if_neg e]
    constructor
    ·rintro(h|⟨q,hq,e2⟩)
     ·exact .inl h
     ·exact .inr ⟨q,.tail _ hq,e2⟩
    ·rintro(h|⟨q,hq,e2⟩)
     ·exact .inl h
     ·rcases List.mem_cons.mp hq with rfl|hq
      ·exact absurd e2.symm e
      ·exact .inr ⟨q,hq,e2⟩
 unfold ZO
 rw[key]
 exact⟨fun h=>h.elim (fun z=>by cases z) id,.inr⟩
theorem Zb7{ps:List (Key×V)}(hn:(ps.map (·.1)).Nodup):ZO ps=ps:=by
 have key:∀(ps acc:List (Key×V)),((acc++ps).map (·.1)).Nodup->ps.foldl (fun acc p=>putK acc p.1 p.2) acc=acc++ps:=by
  intro ps
  induction ps with
  |nil=>intro acc _;rw[List.append_nil];rfl
  |cons p ps ih=>
   intro acc h
   show ps.foldl (fun acc p=>putK acc p.1 p.2) (putK acc p.1 p.2)=_
   have hv:ZX acc p.1=none:=by
    cases z:ZX acc p.1 with
    |none=>rfl
    |some v=>
     have:=Zgu z
     rw[List.map_append,List.nodup_append]at h
     exact absurd rfl (h.2.2 _ this _ (.head _))
   rw[ZcD _ hv,ih]
   ·rw[List.append_assoc];rfl
   ·rw[List.append_assoc];exact h
 exact key ps [] hn
theorem ZdI:CallR X (.type "dict") (fun xs H Q=>∃a kvs,xs=[.ref a]/\H a=some (.dK kvs)/\∀p,H p=none->Q (.ref p) (upd H p (.dK kvs))):=by
 intro pins s σ H xs us Q I r h
 obtain⟨a,kvs,rfl,hd,q⟩:=h
 obtain⟨u,rfl,rx⟩:=vals1 r
 cases(show u=Value.ref a from rx)
 exact Zgj I (.inl hd) fun p s' hp I'=>⟨.ref p,_,I',rfl,q p hp⟩
end
end L2
set_option maxHeartbeats 1000000
namespace L2
open PySem PySem.Spec PyProof.Rows PySem.SeqAt
section
variable{X:Cx}
def Zjo(K:PySem.W.Frag):R2:=fun x y H Q=>∃(p q:Addr)(xs:List V),x= .ref p/\y= .ref q/\SqL K H p xs/\SqL K H q []/\Q (.bl (xs.length==0)) H
theorem ZdZ{k:Nat}(hr:Room k X.A):OpR X (compareOp .Eq) (Zjo X.K):=by
 intro pins s σ H x y v u Q I rx ry h
 obtain⟨p,q,xs,rfl,rfl,ha,hb,hq⟩:=h
 cases(show v=Value.ref p from rx)
 cases(show u=Value.ref q from ry)
 have hun:=hr.un
 show wpAny _ _ (richCompare .Eq (.ref p) (.ref q)) _ _ s
 obtain⟨vs,rvs,pa,_⟩:=I.list ha
 obtain⟨ws,rws,pb,_⟩:=I.list hb
 have l1:=rvs.length
 have l2:=rws.length
 have l3:ws.length=0:=l2.symm
 cases xs with
 |nil=>
  have l4:vs.length=0:=l1.symm
  refine RcAt.lists (A:=X.A) (s:=s) (e:=fun _=>true) pa.isList pb.isList (by simp;omega) (by omega) (fun j h1 h2=>absurd h2 (by rw[List.size_toArray];omega)) _ _ _ _ ?_
  rw[all_true]
  exact⟨.bl _,H,I,rfl,hq⟩
 |cons x xs=>
  refine RcAt.lists_lengths (A:=X.A) (s:=s) pa.isList pb.isList (by
   rw[List.size_toArray,List.size_toArray,l3,<-l1]
   rfl) (by omega) _ _ _ _ ?_
  exact⟨.bl _,H,I,rfl,hq⟩
def Zjl(K:PySem.W.Frag)(b:Bool):R2:=fun x y H Q=>∃(p q:Addr)(d:Nat),x= .ref p/\y= .ref q/\d<=150/\Sam K H d x y/\Q (.bl b) H
theorem ZaE{pins:List (Addr×Obj)}{σ:St}{H:Hp}{s:Shared}(I:Inv X pins σ H s){A:Around}{d:Nat}(hu:A.units+1+d<cLine){xs ys:List V}{vs ws:List Value}(rvs:Vals xs vs)(rws:Vals ys ws)(hl:xs.length=ys.length)
  (hk:∀(i:Nat) u v,xs[i]?=some u->ys[i]?=some v->Sam X.K H d u v) (j:Nat) (h1:j<vs.toArray.size) (h2:j<ws.toArray.size):EqAt A.in1 s vs.toArray[j] ws.toArray[j] true:=by
 have l1:=rvs.length
 have l2:=rws.length
 simp only[List.size_toArray]at h1 h2
 obtain⟨x1,e1,r1⟩:=rvs.get (List.getElem?_eq_getElem (l:=xs) (i:=j) (by omega))
 obtain⟨y1,e2,r2⟩:=rws.get (List.getElem?_eq_getElem (l:=ys) (i:=j) (by omega))
 have g1:vs[j]=x1:=by rw[List.getElem?_eq_getElem h1]at e1;exact Option.some.inj e1
 have g2:ws[j]=y1:=by rw[List.getElem?_eq_getElem h2]at e2;exact Option.some.inj e2
 have g:=Zdt I d A.in1 _ _ x1 y1 (by show A.units+1+d<cLine;omega) (hk j _ _ (List.getElem?_eq_getElem (by omega)) (List.getElem?_eq_getElem (by omega))) r1 r2
 simp only[List.getElem_toArray,g1,g2]
 exact g
theorem Ziq{k:Nat}(hr:Room k X.A):OpR X (compareOp .Eq) (Zjl X.K true):=by
 intro pins s σ H x y v u Q I rx ry h
 obtain⟨p,q,d,rfl,rfl,hd,h,hq⟩:=h
 cases(show v=Value.ref p from rx)
 cases(show u=Value.ref q from ry)
 have hun:=hr.un
 show wpAny _ _ (richCompare .Eq (.ref p) (.ref q)) _ _ s
 cases d with
 |zero=>exact h.2.elim
 |succ d=>
  rcases h with⟨_,h⟩|⟨a,b,xs,ys,ea,eb,h,hl,hk⟩
  ·exact h.elim
  cases ea
  cases eb
  rcases h with⟨ha,hb⟩|⟨ha,hb⟩
  ·obtain⟨vs,rvs,pa,_⟩:=I.tuple ha
   obtain⟨ws,rws,pb,_⟩:=I.tuple hb
   have l1:=rvs.length
   have l2:=rws.length
   refine RcAt.tuples (A:=X.A) (s:=s) (e:=fun _=>true) pa pb (by omega) (ZaE I (by omega) rvs rws hl hk) _ _ _ _ ?_
   have e2:(vs.toArray.size==ws.toArray.size)=true:=by simp;omega
   rw[all_true,e2]
   exact⟨.bl _,H,I,rfl,hq⟩
  ·obtain⟨vs,rvs,pa,_⟩:=I.list ha
   obtain⟨ws,rws,pb,_⟩:=I.list hb
   have l1:=rvs.length
   have l2:=rws.length
   refine RcAt.lists (A:=X.A) (s:=s) (e:=fun _=>true) pa.isList pb.isList (by simp;omega) (by omega) (ZaE I (by omega) rvs rws hl hk) _ _ _ _ ?_
   rw[all_true]
   exact⟨.bl _,H,I,rfl,hq⟩
theorem Zcn{k:Nat}(hr:Room k X.A):OpR X (compareOp .NotEq) (Zjl X.K false):=by
 intro pins s σ H x y v u Q I rx ry h
 obtain⟨p,q,d,rfl,rfl,hd,h,hq⟩:=h
 cases(show v=Value.ref p from rx)
 cases(show u=Value.ref q from ry)
 have hun:=hr.un
 show wpAny _ _ (richCompare .NotEq (.ref p) (.ref q)) _ _ s
 cases d with
 |zero=>exact h.2.elim
 |succ d=>
  rcases h with⟨_,h⟩|⟨a,b,xs,ys,ea,eb,h,hl,hk⟩
  ·exact h.elim
  cases ea
  cases eb
  rcases h with⟨ha,hb⟩|⟨ha,hb⟩
  ·obtain⟨vs,rvs,pa,_⟩:=I.tuple ha
   obtain⟨ws,rws,pb,_⟩:=I.tuple hb
   have l1:=rvs.length
   have l2:=rws.length
   refine RcNeAt.tuples (A:=X.A) (s:=s) (e:=fun _=>true) pa pb (by omega) (ZaE I (by omega) rvs rws hl hk) _ _ _ _ ?_
   have e2:(vs.toArray.size==ws.toArray.size)=true:=by simp;omega
   rw[all_true,e2]
   exact⟨.bl _,H,I,rfl,hq⟩
  ·obtain⟨vs,rvs,pa,_⟩:=I.list ha
   obtain⟨ws,rws,pb,_⟩:=I.list hb
   have l1:=rvs.length
   have l2:=rws.length
   refine RcNeAt.lists (A:=X.A) (s:=s) (e:=fun _=>true) pa.isList pb.isList (by simp;omega) (by omega) (ZaE I (by omega) rvs rws hl hk) _ _ _ _ ?_
   rw[all_true]
   exact⟨.bl _,H,I,rfl,hq⟩
theorem Sam.up{K:PySem.W.Frag}{H:Hp}:∀{d:Nat}{x y:V},Sam K H d x y->Sam K H (d+1) x y
 |0,x,y,h=> .inl h
 |d+1,x,y,h=>by
  rcases h with h|⟨a,b,xs,ys,ea,eb,h,hl,hk⟩
  ·exact .inl h
  ·exact .inr ⟨a,b,xs,ys,ea,eb,h,hl,fun i u v h1 h2=>(hk i u v h1 h2).up⟩
theorem Sam.mono{K:PySem.W.Frag}{H:Hp}{d e:Nat}{x y:V}(h:Sam K H d x y)(hde:d<=e):Sam K H e x y:=by
 obtain⟨n,rfl⟩:=Nat.exists_eq_add_of_le hde
 clear hde
 induction n with
 |zero=>exact h
 |succ n ih=>exact ih.up
theorem Sam.tup{K:PySem.W.Frag}{H:Hp}{d:Nat}{a b:Addr}{xs ys:List V}(ha:H a=some (.tup xs))(hb:H b=some (.tup ys))(hl:xs.length=ys.length)(hk:∀(i:Nat) u v,xs[i]?=some u->ys[i]?=some v->Sam K H d u v):Sam K H (d+1) (.ref a) (.ref b):=
 .inr ⟨a,b,xs,ys,rfl,rfl,.inl ⟨SqT.of ha,SqT.of hb⟩,hl,hk⟩
theorem Sam.atom{K:PySem.W.Frag}{H:Hp}{d:Nat}{x:V}(h:Atom x):Sam K H d x x:=by
 cases d with
 |zero=>exact⟨rfl,h⟩
 |succ d=>exact .inl ⟨rfl,h⟩
end
end L2
namespace SetT
open PySem PySem.SetTable PySem.Spec PyProof.Rows
variable{prog:Program}{w:World}{A:Around}{E:Value->Shared->Prop}{s:Shared}
def IsSI(h:Heap)(it a:Addr)(slot i n ep:Nat):Prop:=∃o,h.get? it=some o/\o.cls= .type "set_iterator"/\o.data= .fields #[.int slot 0,.int i 0,.ref a,.int n 0,.int ep 0]
theorem IsSI.typeIs{s:Shared}{it a:Addr}{slot i n ep:Nat}(x:IsSI s.heap it a slot i n ep):s.TypeIs (.ref it) "set_iterator":=let⟨o,ho,hc,_⟩:=x;⟨o,ho,hc⟩
variable{prog:Program}{w:World}{A:Around}{E:Value->Shared->Prop}{s:Shared}
end SetT
namespace L2
open PySem PySem.Spec PyProof.Rows
theorem Zd8{sp:Sp}{t:TA}(hs:∀vs H Q Q' E,(∀v H',Q v H'->Q' v H')->sp vs H Q E->sp vs H Q' E) (h:ZaB t):YC (ZdP sp [] E0 t):=fun σ H Q Q' k q=>h σ H _ _ (fun vs H1 q=>hs _ _ _ _ _ k q) q
theorem Zei{X:Cx}{K:PySem.W.Frag}(hK:X.K=K):IxR X (ZgA K):=by
 subst hK
 exact Zl
theorem ZcV{k:Int}:∀{ns:List Int},k∈ns->∃j:Nat,ns[j]?=some k/\∀i:Nat,i<j->ns[i]?≠some k
 |n::r,h=>by
  by_cases e:n=k
  ·exact⟨0,by rw[e];rfl,fun i hi=>absurd hi (Nat.not_lt_zero _)⟩
  ·obtain⟨j,h1,h2⟩:=ZcV ((List.mem_cons.mp h).resolve_left fun z=>e z.symm)
   refine⟨j+1,h1,fun i hi=>?_⟩
   cases i with
   |zero=>exact fun z=>e (Option.some.inj z)
   |succ i=>exact h2 i (by omega)
theorem FnOk.or{P:Program}{w:World}{K:PySem.W.Frag}{mg:Str->Option Value}{base:Heap}{CX:CXT}{k:Nat}{f:Addr}{fd:FuncData}{ps:List Str}{sp sp':Sp}(a:FnOk P w K mg base CX k f fd ps sp)(b:FnOk P w K mg base CX k f fd ps sp'):
  FnOk P w K mg base CX k f fd ps (fun vs H Q E=>sp vs H Q E\/sp' vs H Q E):=
 ⟨fun vs H Q E h=>h.elim (a.len vs H Q E) (b.len vs H Q E),fun A outer s H args us vs Q E hr he hb hv h=>h.elim (a.run A outer s H args us vs Q E hr he hb hv) (b.run A outer s H args us vs Q E hr he hb hv)⟩
end L2
namespace L2
open PySem PySem.Spec PyProof.Rows
open AutoSeq1 (wpAny_loadPart')
theorem Zdk(l:Addr)(items:Array Value)(n:Nat)(dd:Option Addr)(sl:Array (Option Value))(u:Tok):
  Meets (Builtin.«tuple.__mul__» ⟨[.ref l,.int 1 u],[]⟩) (fun _ R s=>s.heap.get? l=some {cls:= .type "tuple",dict:=dd,data:= .seq items n,slots:=sl}/\R (.ok (.ret (Value.ref l))) s):=
 .of_wp fun prog w A R s h=>by
  obtain⟨hp,g,d,tk,os⟩:=s;obtain⟨hl,h⟩:=h;have f1:=AutoSeq1.idx_int;have f2:=AutoSeq1.sub_tuple_tuple;have f3:=AutoSeq1.sub_list_list;have f4:=AutoSeq1.sub_tuple_list;have f5:=AutoSeq1.sub_list_tuple
  have hc1:(items.isEmpty||((1:Int)==1))=true:=by simp
  wp_walk using wpAny_loadPart' hl
  exact⟨_,rfl,h⟩
theorem Zdl(l:Addr)(items:Array Value)(n:Nat)(dd:Option Addr)(sl:Array (Option Value))(u:Tok)(hc1:¬(items.isEmpty||((0:Int)==1))=true):
  Meets (Builtin.«tuple.__mul__» ⟨[.ref l,.int 0 u],[]⟩) (fun _ R s=>s.heap.get? l=some {cls:= .type "tuple",dict:=dd,data:= .seq items n,slots:=sl}/\R (.ok (.ret (Value.ref s.heap.objs.size))) {s with heap:=s.heap.push {cls:=Value.type "tuple",data:=Data.seq #[]},toks:=s.toks}):=
 .of_wp fun prog w A R s h=>by
  obtain⟨hp,g,d,tk,os⟩:=s;obtain⟨hl,h⟩:=h;have f1:=AutoSeq1.idx_int;have f2:=AutoSeq1.sub_tuple_tuple;have f3:=AutoSeq1.sub_list_list;have f4:=AutoSeq1.sub_tuple_list;have f5:=AutoSeq1.sub_list_tuple
  have hc2:(decide ((0:Int)<=0)||items.isEmpty)=true:=by simp
  wp_walk using wpAny_loadPart' hl
  first|exact⟨_,rfl,h⟩|(rw[if_neg hc1];wp_walk using wpAny_loadPart' hl;exact⟨_,rfl,h⟩)
section
variable{X:Cx}
def rRepA:R2:=fun x y H Q=>∃l,∃k:Nat,∃xs,x= .ref l/\y= .int (k:Int)/\H l=some (.tup xs)/\k<100000/\xs≠[]/\xs.length*k<=100000/\∀p H',Same H H'->H' p=some (.tup (List.replicate k xs).flatten)->Q (.ref p) H'
theorem ZdY:OpR X (binaryOp .Mult) rRepA:=by
 intro pins s σ H x y v u Q I rx ry h
 obtain⟨l,k,xs,rfl,rfl,hS,h1,hne,hz,q⟩:=h
 match k,h1,hz,q,ry with
 |0,h1,hz,q,ry=>
  cases(show v=Value.ref l from rx)
  obtain⟨t,rfl⟩:=ry
  obtain⟨its,r,pl,_⟩:=I.tuple (SqT.of hS)
  obtain⟨⟨cls,dd,data,sl⟩,ho,hc,n,hd⟩:=id pl
  simp only at hc hd
  subst hc hd
  have hne':its.toArray.isEmpty=false:=by
   cases its with
   |nil=>exact absurd (r.nil_iff.mp rfl) hne
   |cons a b=>rfl
  refine wpAny_binaryOp_repeat_ref (T:="tuple") (U:="int") (by decide) ⟨_,ho,rfl⟩ (fun s'=>typeIs_int s' _ t) Y2 F.fills_int_mul F.slot_int_rmul YZ F.slot_int_index.lookup
   (call_meets F.slot_int_rmul (typeIs_int s _ t) F.entry_int_rmul (F.args_int_rmul_2 _ _) (YJ _ t l its.toArray n dd sl)
    ⟨ho,rfl,⟨_,ho,rfl⟩,call_meets F.slot_tuple_mul ⟨_,ho,rfl⟩ F.entry_tuple_mul (F.args_tuple_mul_2 _ _) (Zdl l its.toArray n dd sl t (by rw[hne'];decide)) ⟨ho,?_⟩⟩)
  refine⟨.ref _,_,I.laid (t':=s.toks) (o:= .tup []) (fun b ob q=>Heap.get?_push_of_some _ q) (Nat.le_refl _) ?_,rfl,q _ _ (ZI I.fresh) Zf⟩
  exact⟨Nat.zero_le _,[],.nil,IsTup.new _ _⟩
 |1,h1,hz,q,ry=>
  cases(show v=Value.ref l from rx)
  obtain⟨t,rfl⟩:=ry
  obtain⟨its,r,pl,_⟩:=I.tuple (SqT.of hS)
  obtain⟨⟨cls,dd,data,sl⟩,ho,hc,n,hd⟩:=id pl
  simp only at hc hd
  subst hc hd
  refine wpAny_binaryOp_repeat_ref (T:="tuple") (U:="int") (by decide) ⟨_,ho,rfl⟩ (fun s'=>typeIs_int s' _ t) Y2 F.fills_int_mul F.slot_int_rmul YZ F.slot_int_index.lookup
   (call_meets F.slot_int_rmul (typeIs_int s _ t) F.entry_int_rmul (F.args_int_rmul_2 _ _) (YJ _ t l its.toArray n dd sl)
    ⟨ho,rfl,⟨_,ho,rfl⟩,call_meets F.slot_tuple_mul ⟨_,ho,rfl⟩ F.entry_tuple_mul (F.args_tuple_mul_2 _ _) (Zdk l its.toArray n dd sl t) ⟨ho,?_⟩⟩)
  exact⟨.ref l,H,I,rfl,q l H (Same.refl H) (by rw[hS];simp)⟩
 |k+2,h1,hz,q,ry=>
  exact ZfA pins s σ H _ _ v u Q I rx ry ⟨l,_,xs,rfl,rfl,hS,by omega,by omega,hne,(by rw[Int.toNat_natCast];exact hz),fun p H' s1 s2=>q p H' s1 (by rw[Int.toNat_natCast]at s2;exact s2)⟩
end
end L2
namespace RX
open PySem PySem.Spec PyProof.Rows
def TrD(h base:Heap)(e:Addr)(cls:Value)(od:Option Addr)(fl:Value):Prop:=
 ∃oe vs T oT ts,h.get? e=some oe/\(oe.cls=cls/\oe.dict=od)/\oe.data= .fields vs/\vs[1]?=some (.ref T)/\base.get? T=none/\T≠e/\h.get? T=some oT/\oT.data= .fields ts/\ts[3]?=some fl
structure Fl(base:Heap)(l:List Env)(e:Addr)(cls:Value)(od:Option Addr)(fl:Value)(h:Heap):Prop where
 stays:base.StaysIn h
 new:base.get? e=none
 frames:h.FunFrames base l
 trace:TrD h base e cls od fl
theorem Zbx(f:Array Value->Array Value)(o:Obj):(o.mapFields f).dict=o.dict:=by
 unfold Obj.mapFields
 split<;>rfl
section
variable{M:Model}{A:Around}{E:Value->Shared->Prop}{s:Shared}{base:Heap}{env:Env}{outer l:List Env}{L e:Addr}{cls fl:Value}{od:Option Addr}{Q:Unit->Shared->Prop}
theorem entry_at{oe:Obj}{vs:Array Value}{head:Value}{hadNext:Bool}
  (hfr:A.frames=some (env::outer))(hl:s.heap.FunFrames base (env::outer))(hf:env.frame=some L)
  (he:s.heap.get? e=some oe)(hkb:base.StaysIn s.heap)(hen:base.get? e=none)(hd:oe.data= .fields vs)(hsz:1<vs.size)
  (h:∀h',Fl base (env::outer) e oe.cls oe.dict (rawInt L) h'->s.heap.UpToSlots h'->Q () {s with heap:=h'}):
  wpAny M A (do let a<-frameOf env;let pl<-entryPlaceOf L hadNext;let b<-EntryCells.newEntry head a .none (rawInt L) .none pl;setField (.ref e) 1 b) Q E s:=by
 have out:e ∉ (env::outer).filterMap (·.frame):=fun hm=>by
  obtain⟨_,o,ho,hnf⟩:=hl.mem hm
  rw[he]at ho;injection ho with ho;subst ho;exact hnf vs hd
 refine wpAny_bind (wpAny_frameOf_fun hfr hl hf fun h₁ hs₁=>?_)
 refine wpAny_bind (wpAny_entryPlaceOf fun pl hpl=>?_)
 unfold EntryCells.newEntry newFields
 refine wpAny_bind (wpAny_newObj_type ?_ (hpl.sizeOk5 _ _ _ _ _))
 have he₁:h₁.get? e=some oe:=(hs₁.2.1 e out).trans he
 have kb₁:base.StaysIn h₁:=fun b o hbo=>(hs₁.2.1 b fun hm=>by rw[(hl.mem hm).1]at hbo;cases hbo).trans (hkb b o hbo)
 generalize hot:({cls:= .type "traceback",dict:=none,data:= .fields ([head,.ref L,.none,rawInt L,.none]++(if pl.isEmpty then List.replicate 6 Value.none else pl)).toArray}:Obj)=ot
 have hotd:ot.data= .fields ([head,.ref L,.none,rawInt L,.none]++(if pl.isEmpty then List.replicate 6 Value.none else pl)).toArray:=by rw[<-hot]
 have hotf:ot.isFreed=false:=by rw[<-hot];rfl
 have he₂:=Heap.get?_push_of_some (h:=h₁) ot he₁
 refine wpAny_setField he₂ hd hsz ?_
 have hTe:h₁.objs.size≠e:=Nat.ne_of_gt (Heap.lt_size he₁)
 have hd₃:=Obj.data_mapFields hd (·.setIfInBounds 1 (Value.ref h₁.objs.size))
 have he₃:=Heap.get?_update_self (Obj.mapFields (·.setIfInBounds 1 (Value.ref h₁.objs.size))) he₂ (Obj.isFreed_of_fields hd₃)
 have hT₃:=(Heap.get?_update_other (h₁.push ot) (Obj.mapFields (·.setIfInBounds 1 (Value.ref h₁.objs.size))) (Ne.symm hTe)).trans (Heap.get?_push_size h₁ hotf)
 have keep:∀b o,b≠e->h₁.get? b=some o->((h₁.push ot).update e (Obj.mapFields (·.setIfInBounds 1 (Value.ref h₁.objs.size)))).get? b=some o:=fun b o hbe hb=>by
  rw[Heap.get?_update_other _ _ (Ne.symm hbe)]
  exact Heap.get?_push_of_some _ hb
 have notE:∀b o,s.heap.get? b=some o->(∀vs,o.data≠.fields vs)->b≠e:=fun b o hb hnf q=>by
  rw[q,he]at hb;injection hb with hb;subst hb;exact hnf vs hd
 refine h _ ⟨fun b o hbo=>keep b o (fun q=>by rw[q,hen]at hbo;cases hbo) (kb₁ b o hbo),hen,hl.of_keeps fun b o hb hnf=>?_,?_⟩ fun b o hb hnf=>?_
 ·obtain⟨sl,hs⟩:=hs₁.2.2 b o hb
  exact⟨_,keep b _ (notE b o hb hnf) hs,rfl⟩
 ·exact⟨_,_,h₁.objs.size,_,_,he₃,⟨Obj.cls_mapFields _ _,Zbx _ _⟩,hd₃,by simp[hsz],kb₁.fresh,hTe,hT₃,hotd,by first|(simp;done)|(rcases hpl with rfl|⟨_,_,_,_,_,_,_,rfl⟩<;>simp)⟩
 ·obtain⟨sl,hs⟩:=hs₁.2.2 b o hb
  exact⟨sl,keep b _ (notE b o hb hnf) hs⟩
theorem Zd5{oe:Obj}{vs:Array Value}(hfr:A.frames=some (env::outer))(hl:s.heap.FunFrames base (env::outer))(hf:env.frame=some L)
  (he:s.heap.get? e=some oe)(hkb:base.StaysIn s.heap)(hen:base.get? e=none)(hd:oe.data= .fields vs)(h1:vs[1]?=some .none)
  (h:∀h',Fl base (env::outer) e oe.cls oe.dict (rawInt L) h'->s.heap.UpToSlots h'->Q () {s with heap:=h'}):wpAny M A (noteFrame (.ref e) env) Q E s:=by
 unfold noteFrame
 simp only[hf]
 refine wpAny_bind (wpAny_field he hd h1 ?_)
 rw[if_neg (by decide)]
 exact entry_at hfr hl hf he hkb hen hd (Array.getElem?_eq_some_iff.mp h1).1 h
theorem Zec(hfr:A.frames=some (env::outer))(hf:env.frame=some L)(x:Fl base (env::outer) e cls od .none s.heap)
  (h:∀h',Fl base (env::outer) e cls od (rawInt L) h'->s.heap.UpToSlots h'->Q () {s with heap:=h'}):wpAny M A (noteFrame (.ref e) env) Q E s:=by
 obtain⟨hkb,hen,hl,oe,vs,T,oT,ts,he,⟨hc,hdd⟩,hd,h1,hnT,hTe,hT,hdT,h3⟩:=x
 subst hc hdd
 unfold noteFrame
 simp only[hf]
 refine wpAny_bind (wpAny_field he hd h1 ?_)
 rw[if_pos (show(Value.ref T !=Value.none)=true from by simp)]
 refine wpAny_bind (wpAny_field hT hdT h3 ?_)
 rw[if_neg (show¬((Value.none==rawInt L)=true)from by simp[rawInt])]
 refine wpAny_bind (wpAny_setField hT hdT (Array.getElem?_eq_some_iff.mp h3).1 ?_)
 have other:∀b,b≠T->(s.heap.update T (Obj.mapFields (·.setIfInBounds 3 Value.none))).get? b=s.heap.get? b:=fun b hb=>Heap.get?_update_other _ _ (Ne.symm hb)
 have notT:∀b o,s.heap.get? b=some o->(∀vs,o.data≠.fields vs)->b≠T:=fun b o hb hnf q=>by
  rw[q,hT]at hb;injection hb with hb;subst hb;exact hnf ts hdT
 refine entry_at hfr (hl.of_keeps fun b o hb hnf=>⟨o,(other b (notT b o hb hnf)).trans hb,rfl⟩) hf ((other e (Ne.symm hTe)).trans he)
  (fun b o hbo=>(other b fun q=>by rw[q,hnT]at hbo;cases hbo).trans (hkb b o hbo)) hen hd (Array.getElem?_eq_some_iff.mp h1).1
  fun h' x1 x2=>h h' x1 fun b o hb hnf=>x2 b o ((other b (notT b o hb hnf)).trans hb) hnf
theorem Jk(x:Fl base l e cls od fl s.heap)
  (h:∀h',Fl base l e cls od .none h'->s.heap.UpToSlots h'->Q () {s with heap:=h'}):wpAny M A (setFlight (.ref e) none) Q E s:=by
 obtain⟨hkb,hen,hl,oe,vs,T,oT,ts,he,hcd,hd,h1,hnT,hTe,hT,hdT,h3⟩:=x
 have hsz3:3<ts.size:=(Array.getElem?_eq_some_iff.mp h3).1
 have other:∀b,b≠T->(s.heap.update T (Obj.mapFields (·.setIfInBounds 3 ((none:Option Addr).elim Value.none fun f=>rawInt f)))).get? b=s.heap.get? b:=
  fun b hb=>Heap.get?_update_other _ _ (Ne.symm hb)
 have notT:∀b o,s.heap.get? b=some o->(∀vs,o.data≠.fields vs)->b≠T:=fun b o hb hnf q=>by
  rw[q,hT]at hb;injection hb with hb;subst hb;exact hnf ts hdT
 unfold setFlight
 refine wpAny_bind (wpAny_field he hd h1 ?_)
 rw[if_pos (show(Value.ref T !=Value.none)=true from by simp)]
 refine wpAny_setField hT hdT hsz3 (h _ ⟨fun b o hbo=>(other b fun q=>by rw[q,hnT]at hbo;cases hbo).trans (hkb b o hbo),hen,
  hl.of_keeps fun b o hb hnf=>⟨o,(other b (notT b o hb hnf)).trans hb,rfl⟩,?_⟩ fun b o hb hnf=>⟨o.slots,(other b (notT b o hb hnf)).trans hb⟩)
 exact⟨oe,vs,T,_,_,(other e (Ne.symm hTe)).trans he,hcd,hd,h1,hnT,hTe,Heap.get?_update_self _ hT (Obj.isFreed_of_fields (Obj.data_mapFields hdT _)),Obj.data_mapFields hdT _,by simp[hsz3]⟩
theorem Fl.tail(x:Fl base (env::outer) e cls od fl s.heap):Fl base outer e cls od fl s.heap:=
 let⟨k1,k2,⟨_,_,k3⟩,k4⟩:=x
 ⟨k1,k2,k3,k4⟩
theorem ZcO{oe:Obj}{vs:Array Value}(hfr:A.frames=some (env::outer))(hl:s.heap.FunFrames base (env::outer))(hf:env.frame=some L)
  (he:s.heap.get? e=some oe)(hkb:base.StaysIn s.heap)(hen:base.get? e=none)(hd:oe.data= .fields vs)(h1:vs[1]?=some .none)
  (h:∀h',Fl base outer e oe.cls oe.dict .none h'->s.heap.UpToSlots h'->Q () {s with heap:=h'}):wpAny M A (leaving env (.ref e)) Q E s:=by
 unfold leaving
 refine wpAny_bind (Zd5 hfr hl hf he hkb hen hd h1 fun h₁ x₁ u₁=>?_)
 refine Jk (s:={s with heap:=h₁}) x₁ fun h₂ x₂ u₂=>h h₂ (Fl.tail (s:={s with heap:=h₂}) x₂) (u₁.trans u₂)
theorem ZfU(hfr:A.frames=some (env::outer))(hf:env.frame=some L)(x:Fl base (env::outer) e cls od .none s.heap)
  (h:∀h',Fl base outer e cls od .none h'->s.heap.UpToSlots h'->Q () {s with heap:=h'}):wpAny M A (leaving env (.ref e)) Q E s:=by
 unfold leaving
 refine wpAny_bind (Zec hfr hf x fun h₁ x₁ u₁=>?_)
 refine Jk (s:={s with heap:=h₁}) x₁ fun h₂ x₂ u₂=>h h₂ (Fl.tail (s:={s with heap:=h₂}) x₂) (u₁.trans u₂)
end
end RX
namespace RX
open PySem PySem.Spec PyProof.Rows L2
def CXe(P:Program)(w:World):CXT:=fun outer H s E ev s'=>
 ∃e cls od H' B,ev= .ref e/\s'.os=s.os/\AllBare s'.gens/\Un (frs outer) [] H H' s.heap s'.heap/\HOk P w H' s'.heap/\Fl B outer e cls od .none s'.heap/\
  (∀b o,s.heap.get? b=some o->b ∉ frs outer->∃o',B.get? b=some o')/\(∀b u,H' b=some u->∃o,B.get? b=some o)/\E cls od H'
theorem YQ{B h:Heap}{b:Addr}{o o':Obj}(k:B.StaysIn h)(e:B.get? b=some o')(q:h.get? b=some o):B.get? b=some o:=by
 have:=k b o' e
 rw[q]at this;cases this;exact e
theorem Za1{P:Program}{w:World}{H:Hp}{B h h':Heap}(x:HOk P w H h)(k:∀b u,H b=some u->∃o,B.get? b=some o) (s1:B.StaysIn h) (s2:B.StaysIn h'):HOk P w H h':=fun a u e=>by
 refine(x a u e).stay (fun b v hb q=>?_) (fun _ q=>q) fun _ _ q=>q
 have go:∀z,H b=some z->h'.get? b=some v:=fun z r=>by
  obtain⟨o,ho⟩:=k b z r
  exact s2 b v (YQ s1 ho q)
 rcases hb with rfl|hb
 ·exact go u e
 ·exact go _ hb
section
variable{X:Cx}{pins:List (Addr×Obj)}{σ:L2.St}{H:Hp}{s s':Shared}{E E':XK}{ev:Value}{M:Model}{EE:Value->Shared->Prop}
theorem Zax(hst:X.stack=X.env::X.outer)(hf:X.env.frame=some X.env.locals){b:Addr}(h:b∈frs X.stack):b=X.env.locals\/b∈frs X.outer:=by
 rw[hst]at h
 unfold frs at h
 rw[List.filterMap_cons,hf]at h
 exact List.mem_cons.mp h
theorem Jf(hst:X.stack=X.env::X.outer){b:Addr}(h:b∈frs X.outer):b∈frs X.stack:=by
 rw[hst]
 unfold frs at h⊢
 rw[List.filterMap_cons]
 split
 ·exact h
 ·exact List.mem_cons_of_mem _ h
theorem ZgJ(hst:X.stack=X.env::X.outer)(hf:X.env.frame=some X.env.locals)(hex:X.ex=[])(I:Inv X pins σ H s)(x:CXe X.prog X.w X.stack H s E ev s')
  (hE:∀c d H',E c d H'->E' c d H'):wpAny M X.A (leaving X.env ev) (fun _ s''=>CXe X.prog X.w X.outer X.H₀ X.s₀ E' ev s'') EE s':=by
 obtain⟨e,cls,od,H',B,rfl,os,bare,un,hok,fl,k1,k2,q⟩:=x
 have noA:∀b:Addr,b ∉ X.ex:=fun b z=>by rw[hex]at z;cases z
 have fl':Fl B (X.env::X.outer) e cls od .none s'.heap:=by rw[<-hst];exact fl
 refine ZfU (by rw[<-hst];exact I.ok.frames) hf fl' fun h' f u=>⟨e,cls,od,H',B,rfl,os.trans I.os,bare,?_,Za1 hok k2 fl.stays f.stays,f,?_,k2,hE _ _ _ q⟩
 ·have nL:∀b o,X.s₀.heap.get? b=some o->b≠X.env.locals:=fun b o e=>Nat.ne_of_lt (Nat.lt_of_lt_of_le (Heap.lt_size e) I.ok.above)
  have out:∀b o,X.s₀.heap.get? b=some o->b ∉ frs X.outer->b ∉ frs X.stack:=fun b o e n z=>(Zax hst hf z).elim (nL b o e) n
  have slot:∀b o,X.s₀.heap.get? b=some o->X.H₀ b=none->b∈frs X.outer->∃sl,h'.get? b=some {o with slots:=sl}:=fun b o e n hb=>by
   obtain⟨sl,e1⟩:=I.base.slot b o e n hb (noA b)
   obtain⟨sl2,e2⟩:=un.slot b _ e1 (I.base.free b o e n (noA b)) (Jf hst hb) (by simp)
   obtain⟨_,o3,ho3,hnf⟩:=fl.frames.mem (Jf hst hb)
   rw[e2]at ho3;cases ho3
   obtain⟨sl3,e3⟩:=u b _ e2 hnf
   exact⟨sl3,e3⟩
  have keep:∀b o,X.s₀.heap.get? b=some o->X.H₀ b=none->b ∉ frs X.outer->h'.get? b=some o:=fun b o e n hb=>by
   have e1:=I.base.keep b o e n hb (noA b)
   have e2:=un.keep b o e1 (I.base.free b o e n (noA b)) (out b o e hb) (by simp)
   obtain⟨o',h3⟩:=k1 b o e1 (out b o e hb)
   exact f.stays b o (YQ fl.stays h3 e2)
  refine⟨fun b o e n hb _=>keep b o e n hb,fun b o e n hb _=>slot b o e n hb,fun b o e n _=>?_,fun b o e _=>?_,fun b xs e=>un.tups b xs (I.base.tups b xs e),fun b o xs e=>un.frzs b o xs (I.base.frzs b o xs e),fun b ps e=>?_⟩
  ·obtain⟨o',e1⟩:=I.base.there b o e (noA b)
   exact un.free b o' e1 (I.base.free b o e n (noA b)) (by simp)
  ·by_cases hb:b∈frs X.outer
   ·obtain⟨sl,z⟩:=slot b o e (I.ok.frf b hb) hb
    exact⟨_,z⟩
   ·obtain⟨o',e1⟩:=I.base.there b o e (noA b)
    obtain⟨o2,h2⟩:=k1 b o' e1 (out b o e hb)
    exact⟨o2,f.stays b o2 h2⟩
  ·obtain⟨m1,e1⟩:=I.base.tbls b ps e
   obtain⟨m2,e2⟩:=un.tbls b _ e1
   exact⟨m1++m2,by rw[e2,Array.append_assoc]⟩
 ·intro b o e hb
  obtain⟨o',e1⟩:=I.base.there b o e (noA b)
  exact k1 b o' e1 fun z=>(Zax hst hf z).elim (Nat.ne_of_lt (Nat.lt_of_lt_of_le (Heap.lt_size e) I.ok.above)) hb
end
theorem ZcG{P:Program}{w:World}{K:PySem.W.Frag}{mg:Str->Option Value}{base:Heap}{N:List Str}{qual:Str}{scope:Scope}{f:Addr}{cd:Value}{A:Around}{outer:List Env}{s:Shared}{H:Hp}{E E':XK}
  (hE:∀c d H',E' c d H'->E c d H'):JR (CXe P w) (ZF (CXe P w) P w K mg base N qual scope f cd A outer s H E) E':=
 fun _ _ _ _ _ _ I x=>ZgJ (X:=ZF (CXe P w) P w K mg base N qual scope f cd A outer s H E) rfl rfl rfl I x hE
theorem Zju{P:Program}{w:World}{K:PySem.W.Frag}{mg:Str->Option Value}{base:Heap}{N:List Str}{qual:Str}{scope:Scope}{f:Addr}{cd:Value}{A:Around}{outer:List Env}{s:Shared}{H:Hp}{E:XK}{CX:CXT}:
  PassesOwn (model P w) (ZF CX P w K mg base N qual scope f cd A outer s H E).A (ZF CX P w K mg base N qual scope f cd A outer s H E).env (ZF CX P w K mg base N qual scope f cd A outer s H E).xe:=PassesOwn.leaving
end RX
namespace RX
open PySem PySem.Spec PyProof.Rows L2 PySem.W
open Builtin Builtin.ObjectAttr
abbrev ZaP:List Value:=[.type "ValueError",.type "Exception",.type "BaseException",.type "object"]
def Zce(e:DictEntry):Bool:=match e.key with| .str _ _=>true|_=>false
def Zff(K:Frag)(C D:Addr):Bool:=match K.lookup C,K.lookup D with
 |some ⟨c,_,.cls cd,sl⟩,some ⟨_,_,.cls dd,_⟩=>c== .type "type"&&cd.mro== .ref C:: .ref D::ZaP&& !cd.hasDel&&cd.hasDict&&sl.toList.length==6&&(sl.toList[4]?).join==some (.builtin "ValueError.__new__")&&
   (match K.lookup dd.ns with|some ⟨_,_,.dict es _,_⟩=>es.toList.all Zce&&(nsFind es "__init__").isNone|_=>false)
 |_,_=>false
theorem Zdp{es:Array DictEntry}(h:es.toList.all Zce=true):StrKeys es:=by
 intro e he
 have q:Zce e=true:=List.all_eq_true.mp h e (by simpa using he)
 unfold Zce at q
 split at q
 ·rename_i n t hk;exact⟨n,t,hk⟩
 ·cases q
def ClsAt(h:Heap)(C D:Addr):Prop:=OwnTail h ZaP (.ref D::ZaP)/\∃nm q N bs sn sub ab col dd k0 k1 k2 k3 k5,h.get? C=some (excClassObj nm q C N bs (.ref D::ZaP) true sn sub ab col dd k0 k1 k2 k3 k5 "ValueError.__new__")
theorem Zbz{K:Frag}{h:Heap}{C D:Addr}(X:K.In h)(e:Zff K C D=true):ClsAt h C D:=by
 unfold Zff at e
 split at e
 ·rename_i c dd cd sl c2 d2 dd2 sl2 hC hD
  simp only[Bool.and_eq_true,Bool.not_eq_true',beq_iff_eq]at e
  obtain⟨⟨⟨⟨⟨⟨e1,e2⟩,e3⟩,e4⟩,e5⟩,e6⟩,e7⟩:=e
  split at e7
  ·rename_i c3 d3 es n3 sl3 hN
   rw[Bool.and_eq_true]at e7
   refine⟨.own (X _ _ hD) ⟨_,es,n3,X _ _ hN,rfl,Zdp e7.1,fun _=>rfl⟩ (by simpa using e7.2) .base,?_⟩
   obtain⟨nm,bs,mro,ns,qn,hd,sn,sub,ab,col,hdel⟩:=cd
   dsimp only at e2 e3 e4
   subst e1 e2 e3 e4
   obtain⟨l⟩:=sl
   match l,e5,e6 with
   |[k0,k1,k2,k3,k4,k5],_,e6=>
    have e6':k4=some (.builtin "ValueError.__new__"):=by simpa using e6
    subst e6'
    exact⟨_,_,_,_,_,_,_,_,_,_,_,_,_,_,X _ _ hC⟩
  ·cases e7
 ·cases e
theorem ClsAt.keeps{h h':Heap}{C D:Addr}(x:ClsAt h C D)(k:∀b o,h.get? b=some o->h'.get? b=some o):ClsAt h' C D:=by
 obtain⟨T,nm,q,N,bs,sn,sub,ab,col,dd,k0,k1,k2,k3,k5,hC⟩:=x
 exact⟨T.keeps k,_,_,_,_,_,_,_,_,_,_,_,_,_,_,k _ _ hC⟩
section
variable{prog:Program}{w:World}{A:Around}{E:Value->Shared->Prop}{h:Heap}{g:Array GenState}{d:Drawn}{t:Nat}{os:OsState}{C D:Addr}
abbrev Y3(rest:List Value):Obj:={cls:= .type "tuple",data:= .seq rest.toArray}
abbrev Zdv(t:Addr):Array Value:=#[.ref t,.none,.none,.none,.bool false,.none]
abbrev Zb5(C t:Addr):Obj:={cls:= .ref C,data:= .fields (Zdv t)}
theorem ZaR{rest:List Value}{fI:Addr}{Q:Fin->Shared->Prop}(hc:ClsAt h C D)(hi:Looks (model prog w) h (typeLookup (.ref C) "__init__") (some (.ref fI)))
  (hb:∀self,Looks (model prog w) h (bindSpecial (.ref fI) self) (.ref fI,[self]))
  (hq:wpAny (model prog w) A (call (.ref fI) (.ref (h.objs.size+1)::rest)) (fun r s'=>r= .none/\Q (.done (.ret (.ref (h.objs.size+1)))) s') E
   ⟨(h.push (Y3 rest)).push (Zb5 C h.objs.size),g,d,t,os⟩) (hrest:rest.length<=sizeLine):
  wpAny (model prog w) A (Builtin.«type.__call__» ⟨.ref C::rest,[]⟩) Q E ⟨h,g,d,t,os⟩:=by
 obtain⟨T,nm,q,N,bs,sn,sub,ab,col,dd,k0,k1,k2,k3,k5,hC⟩:=hc
 have F:=PySem.F.excBase_ValueError
 repeat (first|with_reducible refine wpAny_loadPart_at hC ?_|with_reducible refine wpAny_madeBy_exc hC ?_|wp_step)
 refine codeAny_call_builtin_code (Code.quiet_builtin _ F.quiet) (wpAny_check_new_subT F T hC ?_)
 refine codeAny_exc_new_subT F T hC ?_ hrest
 show wpAny _ _ _ _ _ _
 have k:∀b o,h.get? b=some o->((h.push (Y3 rest)).push (Zb5 C h.objs.size)).get? b=some o:=fun b o e=>Heap.get?_push_of_some _ (Heap.get?_push_of_some _ e)
 have hC₁:=Heap.get?_push_of_some {cls:= .ref C,data:= .fields #[.ref h.objs.size,.none,.none,.none,.bool false,.none]} (Heap.get?_push_of_some {cls:= .type "tuple",data:= .seq rest.toArray} hC)
 have hget:((h.push {cls:= .type "tuple",data:= .seq rest.toArray}).push {cls:= .ref C,data:= .fields #[.ref h.objs.size,.none,.none,.none,.bool false,.none]}).get? (h.objs.size+1)=some
   {cls:= .ref C,data:= .fields #[.ref h.objs.size,.none,.none,.none,.bool false,.none]}:=by heap_get
 have hcC:(Value.ref C::Value.ref D::ZaP).contains (.ref C)=true:=by simp
 have hi₁:=hi.keeps k
 have hb₁:=(hb (.ref (h.objs.size+1))).keeps k
 unfold isInstance
 repeat (first|with_reducible refine wpAny_loadPart_at hget ?_|(with_reducible refine wpAny_isSubtype_exc hC₁ ?_;rw[hcC])|wp_step)
 show wpAny _ _ (typeLookup (.ref C) _) _ _ _
 refine hi₁.here (s:=⟨(h.push (Y3 rest)).push (Zb5 C h.objs.size),g,d,t,os⟩) ?_
 refine wpAny_holding (wpAny_bind (hb₁.here (s:=⟨(h.push (Y3 rest)).push (Zb5 C h.objs.size),g,d,t,os⟩) ?_))
 refine wpAny_bind (wpAny_mono hq (fun r s' hr=>?_) fun _ _ x=>x)
 obtain⟨rfl,hQ⟩:=hr
 wp_walk
 exact hQ
theorem ZbC{rest:List Value}{fI:Addr}{Q:Value->Shared->Prop}(hc:ClsAt h C D)(hi:Looks (model prog w) h (typeLookup (.ref C) "__init__") (some (.ref fI)))
  (hb:∀self,Looks (model prog w) h (bindSpecial (.ref fI) self) (.ref fI,[self]))
  (hq:wpAny (model prog w) (A.under (.builtin "type.__call__" ⟨.ref C::rest,[]⟩)) (call (.ref fI) (.ref (h.objs.size+1)::rest)) (fun r s'=>r= .none/\Q (.ref (h.objs.size+1)) s') E
   ⟨(h.push (Y3 rest)).push (Zb5 C h.objs.size),g,d,t,os⟩) (hrest:rest.length<=sizeLine):
  wpAny (model prog w) A (call (.ref C) rest) Q E ⟨h,g,d,t,os⟩:=by
 obtain⟨T,nm,q,N,bs,sn,sub,ab,col,dd,k0,k1,k2,k3,k5,hC⟩:=id hc
 have f1:=tc_lookup
 have f2:=tc_bind (.ref C)
 have hT:(⟨h,g,d,t,os⟩:Shared).TypeIs (.ref C) "type":=⟨_,hC,rfl⟩
 refine wpAny_call (codeAny_of_tree ?_)
 show wpAny _ _ (callAny (.ref C) _) _ _ _
 repeat (any_goals (first|assumption|with_reducible refine wpAny_loadPart_at hC ?_|wp_step))
 refine⟨rfl,?_⟩
 refine codeAny_call_builtin_at (Code.quiet_builtin _ (by decide+kernel)) entry_typeCall (wpAny_check_type_call_sub hC (ZaR hc hi hb ?_ hrest))
 exact hq
end
section
variable{prog:Program}{w:World}{A:Around}{E:Value->Shared->Prop}{K:Frag}{C D x:Addr}{s:Shared}
theorem Zg4{vs:Array Value}{name:Str}{v:Value}{Q:Unit->Shared->Prop}(X:K.In s.heap)(hc:Zff K C D=true)(hs:findIn K (.ref C) "__setattr__"=some (some (.builtin "object.__setattr__")))(ha:findIn K (.ref C) name=some none)
  (hx:s.heap.get? x=some ⟨.ref C,none,.fields vs,#[]⟩)
  (hq:∀h' tk,h'.get? x=some ⟨.ref C,some s.heap.objs.size,.fields vs,#[]⟩->h'.Ns1 s.heap.objs.size (fun y=>if y=name then some v else none)->(∀b o,b≠x->s.heap.get? b=some o->h'.get? b=some o)->Q () {s with heap:=h',toks:=tk}):
  wpAny (model prog w) A (setAttr (.ref x) name v) Q E s:=by
 have SF:=PySem.F.store_ValueError
 have I:InstAt s.heap x ⟨.ref C,none,.fields vs,#[]⟩ C none:=⟨hx,rfl,rfl,trivial⟩
 refine set_plain X I hs ?_
 obtain⟨T,nm,q,N,bs,sn,sub,ab,col,dd,k0,k1,k2,k3,k5,hC⟩:=Zbz X hc
 obtain⟨h,g,d,t,os⟩:=s
 have hm:Looks (model prog w) h (mroOf (.ref C)) (.ref C:: .ref D::ZaP):=((Looks.ld (part:=none) hC).andThen .now).andThen .now
 have sub':Looks (model prog w) h (isInstance (.ref x) (.type "object")) true:=I.type.andThen (by
  unfold isSubtype
  exact hm.andThen .now)
 refine codeAny_call_builtin SF.slot.plain SF.entry (@check_slot (model prog w) _ _ ⟨h,g,d,t+1,os⟩ "object.__setattr__" "object" "__setattr__" (.ref x) [.str name t,v] [] _ SF.kind SF.split sub' (SF.args (.ref x) (.str name t) v) ?_)
 rw[osa_eq,refuse_eq]
 refine wpAny_bind (wpAny_bind (I.type.here (s:=⟨h,g,d,t+1,os⟩) (wpAny_bind (hm.here (s:=⟨h,g,d,t+1,os⟩) ?_))))
 rw[refuseLoop_ref,refuseLoop_ref,SF.passes]
 refine wpAny_pure (wpAny_bind (I.type.here (s:=⟨h,g,d,t+1,os⟩) (wpAny_bind ((looks_findIn X ha).here (s:=⟨h,g,d,t+1,os⟩) (wpAny_bind (wpAny_pure ?_))))))
 have hx₁:(h.push {cls:= .type "dict",data:= .dict #[]}).get? x=some ⟨.ref C,none,.fields vs,#[]⟩:=Heap.get?_push_of_some _ hx
 have hxs:x≠h.objs.size:=Nat.ne_of_lt (Heap.lt_size hx)
 refine wpAny_bind (wpAny_pure (wpAny_bind (wpAny_bind (wpAny_loadPart hx ?_))))
 refine wpAny_bind (wpAny_bind (wpAny_load hC (wpAny_pure ?_)))
 refine wpAny_bind (wpAny_alloc' ?_)
 refine wpAny_bind (wpAny_update' hx₁ ?_)
 refine wpAny_pure ?_
 have hgd:((h.push {cls:= .type "dict",data:= .dict #[]}).update x fun o=>{cls:=o.cls,dict:=some h.objs.size,data:=o.data,slots:=o.slots}).get? h.objs.size
   =some {cls:= .type "dict",data:= .dict #[]}:=
  (Heap.get?_update_ne _ _ _ _ hxs.symm).trans (Heap.get?_push_at rfl rfl)
 have hnd:((h.push {cls:= .type "dict",data:= .dict #[]}).update x fun o=>{cls:=o.cls,dict:=some h.objs.size,data:=o.data,slots:=o.slots}).Ns h.objs.size (fun _=>none):=
  ⟨_,#[],_,hgd,rfl,fun e he=>absurd he (by simp),fun _=>rfl⟩
 show wpAny _ _ (storeInDict h.objs.size (.str name t) name v) _ _ _
 unfold storeInDict newKeyGuard
 refine wpAny_bind (wpAny_pure (wpAny_bind (wpAny_nsSet1 (Heap.Ns1.of_empty hnd) fun h' hn' hs=>?_)))
 obtain⟨oD,esD,epD,hoD,hdD,hcD⟩:=hn'.count (PySem.Within.cons name v PySem.Within.nil)
 refine wpAny_bind (wpAny_lookBehind hoD (by rw[hdD];exact pastItsLine_dict (Nat.le_trans hcD (by rw[List.length_cons,List.length_nil,sizeLine_eq];omega))) ?_)
 refine wpAny_pure (hq h' _ ?_ hn' fun b o hb e=>?_)
 ·exact(hs.2 x hxs).trans (Heap.get?_update_self _ hx₁ rfl)
 ·exact(hs.2 b (Nat.ne_of_lt (Heap.lt_size e))).trans ((Heap.get?_update_ne _ _ _ _ hb).trans (Heap.get?_push_of_some _ e))
end
end RX
namespace RX
open PySem PySem.Spec PyProof.Rows L2 PySem.W
def XV(C:Addr)(od:Option Addr)(fv:Array Value)(e:Addr):HO:= .ext fun h=>h.get? e=some ⟨.ref C,od,.fields fv,#[]⟩
theorem XV.ok{P:Program}{w:World}{H:Hp}{h:Heap}{C e:Addr}{od:Option Addr}{fv:Array Value}(x:h.get? e=some ⟨.ref C,od,.fields fv,#[]⟩):ObjOk P w H h e (XV C od fv e):=
 ⟨x,⟨_,x⟩,fun _ _ p k=>k _ p⟩
theorem XV.get{P:Program}{w:World}{H:Hp}{h:Heap}{C e:Addr}{od:Option Addr}{fv:Array Value}(x:HOk P w H h)(q:H e=some (XV C od fv e)):h.get? e=some ⟨.ref C,od,.fields fv,#[]⟩:=(x e _ q).1
structure XCl(K:Frag)(C D:Addr):Prop where
 cls:Zff K C D=true
 sa:findIn K (.ref C) "__setattr__"=some (some (.builtin "object.__setattr__"))
 kp:keepIn K (.ref C)=true
def Zjh(K:Frag)(ta tv:TE)(f:Str):TS:=fun D σ H=>tv σ H fun y H1=>ta σ H1 fun x H2=>∃e C Dd fv,x= .ref e/\H2 e=some (XV C none fv e)/\XCl K C Dd/\findIn K (.ref C) f=some none/\
 ∀dx,H2 dx=none->dx≠e->D.nx σ (upd (upd H2 dx (.xd [(f,y)])) e (XV C (some dx) fv e))
section
variable{X:Cx}{o value:Expr}{f:Str}{pos pos':Pos}{ta tv:TE}
theorem ZgC(ha:PE X o ta)(hv:PE X value tv)(hs:swapsWith value (some (.Attribute o f pos')) pos.line X.env=pure false):PS X (.Assign [.Attribute o f pos'] value pos) (Zjh X.K ta tv f):=by
 intro pins s σ H D I h
 refine plainObj_wpAny_Assign_Attribute (thn (hv pins s σ H _ I h) fun u s1⟨y,H1,I1,ry,q⟩=>thn (ha pins s1 σ H1 _ I1 q) fun ov s2⟨x,H2,I2,rx,e,C,Dd,fv,ex,ea,c,n,q2⟩=>?_) hs
 subst ex
 obtain rfl:ov=Value.ref e:=rx
 have hx:=XV.get I2.hok ea
 have hn:H2 s2.heap.objs.size=none:=I2.hok.fresh (Nat.le_refl _)
 have hne:s2.heap.objs.size≠e:=Nat.ne_of_gt (Heap.lt_size hx)
 refine Zg4 I2.kIn c.cls c.sa n hx fun h' tk g1 g2 g3=>?_
 have ne1:∀b v,H2 b=some v->(∀φ,v≠.ext φ)->b≠e:=fun b v r nv z=>by rw[z,ea]at r;exact nv _ (Option.some.inj r).symm
 have ne2:∀b v,H2 b=some v->b≠s2.heap.objs.size:=fun b v r z=>by rw[z,hn]at r;cases r
 have ne3:∀b,H2 b=none->b≠e:=fun b r z=>by rw[z,ea]at r;cases r
 have at3:∀b,b≠e->b≠s2.heap.objs.size->upd (upd H2 s2.heap.objs.size (.xd [(f,y)])) e (XV C (some s2.heap.objs.size) fv e) b=H2 b:=fun b h1 h2=>by rw[Zg h1,Zg h2]
 refine⟨σ,_,I2.un (H':=upd (upd H2 s2.heap.objs.size (.xd [(f,y)])) e (XV C (some s2.heap.objs.size) fv e)) (h':=h') (t':=tk) ⟨?_,?_,?_,?_,?_,?_,?_⟩ fun b v r=>?_,q2 _ hn hne⟩
 ·exact fun b ob r n _ _=>g3 b ob (ne3 b n) r
 ·exact fun b ob r n _ _=>⟨ob.slots,g3 b ob (ne3 b n) r⟩
 ·exact fun b ob r n _=>by rw[at3 b (ne3 b n) (Nat.ne_of_lt (Heap.lt_size r))];exact n
 ·intro b ob r _
  by_cases z:b=e
  ·subst z;exact⟨_,g1⟩
  ·exact⟨_,g3 b ob z r⟩
 ·exact fun b xs r=>by rw[at3 b (ne1 b _ r fun _=>by simp) (ne2 b _ r)];exact r
 ·exact fun b ob xs r=>by rw[at3 b (ne1 b _ r fun _=>by simp) (ne2 b _ r)];exact r
 ·exact fun b ps r=>⟨#[],by rw[at3 b (ne1 b _ r fun _=>by simp) (ne2 b _ r),r];simp⟩
 ·by_cases z:b=e
  ·subst z;rw[Zf]at r;cases r;exact XV.ok g1
  ·by_cases z2:b=s2.heap.objs.size
   ·subst z2
    rw[Zg z,Zf]at r;cases r
    refine⟨_,g2,fun g=>?_⟩
    by_cases w:g=f
    ·subst w
     rw[if_pos rfl,List.lookup_cons_self];exact ry
    ·rw[if_neg w,show List.lookup g [(f,y)]=none from by unfold List.lookup;rw[beq_eq_false_iff_ne.mpr w];rfl];trivial
   ·rw[at3 b z z2]at r
    refine(I2.hok b v r).stay (fun c ob hc q=>g3 c ob ?_ q) (fun c q=>?_) fun c xs q=>?_
    ·rcases hc with rfl|hc
     ·exact z
     ·exact ne1 c _ hc fun _=>by simp
    ·rw[at3 c (ne1 c _ q fun _=>by simp) (ne2 c _ q)];exact q
    ·rw[at3 c (ne1 c _ q fun _=>by simp) (ne2 c _ q)];exact q
end
section
variable{M:Model}{A:Around}{E:Value->Shared->Prop}{s:Shared}{env:Env}{C D:Addr}{Q:Flow->Shared->Prop}
theorem ZaY{x:Sem Value}(hh:A.handled=none)
  (h:wpAny M A x (fun v s₁=>∃e t od,v= .ref e/\ClsAt s₁.heap C D/\s₁.heap.get? e=some {cls:= .ref C,dict:=od,data:= .fields #[.ref t,.none,.none,.none,.bool false,.none]}/\E (.ref e) s₁) E s):wpAny M A (raiseStmt env (some x) none) Q E s:=by
 have hcB:(Value.ref C::Value.ref D::ZaP).contains (.type "BaseException")=true:=by
  rw[List.contains_cons,List.contains_cons]
  exact Bool.or_eq_true_iff.mpr (.inr (Bool.or_eq_true_iff.mpr (.inr (by decide))))
 unfold raiseStmt
 refine wpAny_bind (wpAny_mono h (fun v s₁ h₁=>?_) fun _ _ x=>x)
 obtain⟨e,t,od,rfl,⟨T,nm,q,N,bs,sn,sub,ab,col,dd,k0,k1,k2,k3,k5,hC⟩,he,hE⟩:=h₁
 obtain⟨hp,g,d,tk,os⟩:=s₁
 repeat (first|with_reducible refine wpAny_loadPart_at he ?_|with_reducible refine wpAny_loadPart_at hC ?_|(with_reducible refine wpAny_isSubtype_exc hC ?_;rw[hcB])|wp_step)
 exact wpAny_raiseNew_none hh hE
theorem ZdG{prog:Program}{w:World}{ex:Expr}{pos:Pos}(hh:A.handled=none)
  (h:wpAny (model prog w) A (eval ex env) (fun v s₁=>∃e t od,v= .ref e/\ClsAt s₁.heap C D/\s₁.heap.get? e=some {cls:= .ref C,dict:=od,data:= .fields #[.ref t,.none,.none,.none,.bool false,.none]}/\E (.ref e) s₁) E s):
  wpAny (model prog w) A (exec (.Raise (some ex) none pos) env) Q E s:=by
 rw[arm_exec_Raise]
 first
  |exact wpAny_bind (wpAny_standAt (ZaY (C:=C) (D:=D) hh (wpAny_bind (wpAny_mono h (fun v s₃ h₃=>wpAny_bind (wpAny_standAt (wpAny_pure h₃))) fun _ _ x=>x))))
  |(simp only[evalOpt,Option.map];exact wpAny_bind (wpAny_standAt (ZaY (C:=C) (D:=D) hh (wpAny_bind (wpAny_mono h (fun v s₃ h₃=>wpAny_bind (wpAny_standAt (wpAny_pure h₃))) fun _ _ x=>x)))))
end
theorem ZhA{P:Program}{w:World}{H:Hp}{h:Heap}{a:Addr}{o:HO}(x:ObjOk P w H h a o):∃u,h.get? a=some u:=by
 cases o with
 |lst xs=>obtain⟨_,_,_,_,e⟩:=x;exact⟨_,e⟩
 |tup xs=>obtain⟨_,_,_,o,e,_⟩:=x;exact⟨_,e⟩
 |dK kvs=>obtain⟨_,_,_,_,o,_,_,e,_⟩:=x;exact⟨_,e⟩
 |dT kvs=>obtain⟨_,_,_,_,o,_,_,e,_⟩:=x;exact⟨_,e⟩
 |set S n=>obtain⟨o,_,_,_,e,_⟩:=x;exact⟨_,e⟩
 |ins C dx fs=>obtain⟨_,_,_,e,_⟩:=x;exact⟨_,e⟩
 |own y=>exact x
 |xd fs=>obtain⟨_,⟨_,_,_,e,_⟩,_⟩:=x;exact⟨_,e⟩
 |rng lo hi=>obtain⟨_,_,_,e⟩:=x;exact⟨_,e⟩
 |frz ob u=>obtain⟨e,_⟩:=x;exact⟨_,e⟩
 |tbl ps=>exact⟨_,(show h.get? a=some _ from x)⟩
 |met f y=>exact⟨_,(show h.get? a=some _ from x)⟩
 |ext φ=>obtain⟨_,e,_⟩:=x;exact e
def Zc6(H:Hp)(e:Addr):Hp:=fun b=>if b=e then none else H b
theorem YY{H:Hp}{e b:Addr}(h:b≠e):Zc6 H e b=H b:=by unfold Zc6;rw[if_neg h]
theorem Zan{H:Hp}{e:Addr}:Zc6 H e e=none:=by unfold Zc6;rw[if_pos rfl]
section
variable{X:Cx}{pins:List (Addr×Obj)}{σ:L2.St}{H:Hp}{s:Shared}
theorem ZfY{e:Addr}(I:L2.Inv X pins σ H s){φ:Heap->Prop}(he:H e=some (.ext φ)):L2.Inv X pins σ (Zc6 H e) s:=by
 have free:∀b,H b=none->Zc6 H e b=none:=fun b q=>by unfold Zc6;split<;>first|rfl|exact q
 have ne:∀b v,H b=some v->(∀φ,v≠.ext φ)->b≠e:=fun b v r nv z=>by rw[z,he]at r;exact nv _ (Option.some.inj r).symm
 refine⟨I.ok,I.os,I.bare,⟨I.base.keep,I.base.slot,fun b o q n hx=>free b (I.base.free b o q n hx),I.base.there,fun b xs q=>?_,fun b o xs q=>?_,fun b ps q=>?_⟩,I.loc,I.cell,free _ I.free,fun x c q=>free _ (I.freeC x c q),fun p hp=>?_,fun b u q=>?_,I.len⟩
 ·have r:=I.base.tups b xs q
  rw[YY (ne b _ r fun _=>by simp)];exact r
 ·have r:=I.base.frzs b o xs q
  rw[YY (ne b _ r fun _=>by simp)];exact r
 ·obtain⟨m,r⟩:=I.base.tbls b ps q
  exact⟨m,by rw[YY (ne b _ r fun _=>by simp)];exact r⟩
 ·obtain⟨e1,n,r⟩:=I.pin p hp
  exact⟨e1,free _ n,r⟩
 ·have hb:b≠e:=fun z=>by rw[z,Zan]at q;cases q
  rw[YY hb]at q
  refine(I.hok b u q).stay (fun _ _ _ z=>z) (fun c z=>?_) fun c xs z=>?_
  ·rw[YY (ne c _ z fun _=>by simp)];exact z
  ·rw[YY (ne c _ z fun _=>by simp)];exact z
theorem Zc7{outer:List Env}{H₀ H':Hp}{h₀ h h' B:Heap}(un:Un (frs outer) [] H₀ H' h₀ h)(s1:B.StaysIn h)(s2:B.StaysIn h')(k1:∀b o,h₀.get? b=some o->b ∉ frs outer->∃o',B.get? b=some o')
  (frf:∀b∈frs outer,H₀ b=none) (nf:∀b∈frs outer,∀o,h.get? b=some o->∀vs,o.data≠.fields vs) (u:h.UpToSlots h'):Un (frs outer) [] H₀ H' h₀ h':=by
 have slot:∀b o,h₀.get? b=some o->H₀ b=none->b∈frs outer->∃sl,h'.get? b=some {o with slots:=sl}:=fun b o e n hb=>by
  obtain⟨sl,e1⟩:=un.slot b o e n hb (by simp)
  obtain⟨sl2,e2⟩:=u b _ e1 (nf b hb _ e1)
  exact⟨sl2,e2⟩
 refine⟨fun b o e n hb _=>?_,fun b o e n hb _=>slot b o e n hb,un.free,fun b o e _=>?_,un.tups,un.frzs,un.tbls⟩
 ·obtain⟨o',h3⟩:=k1 b o e hb
  exact s2 b o (YQ s1 h3 (un.keep b o e n hb (by simp)))
 ·by_cases hb:b∈frs outer
  ·obtain⟨sl,z⟩:=slot b o e (frf b hb) hb
   exact⟨_,z⟩
  ·obtain⟨o',h3⟩:=k1 b o e hb
   exact⟨o',s2 b o' h3⟩
theorem Zcj{M:Model}{EE:Value->Shared->Prop}{E:XK}{e C t:Addr}{od:Option Addr}(hst:X.stack=X.env::X.outer)(hf:X.env.frame=some X.env.locals)(hex:X.ex=[])(I:L2.Inv X pins σ H s)
  (hn:X.s₀.heap.get? e=none)(he:s.heap.get? e=some {cls:= .ref C,dict:=od,data:= .fields #[.ref t,.none,.none,.none,.bool false,.none]})(hu:H e=none)(q:E (.ref C) od H):
  wpAny M X.A (leaving X.env (.ref e)) (fun _ s''=>CXe X.prog X.w X.outer X.H₀ X.s₀ E (.ref e) s'') EE s:=by
 have noA:∀b:Addr,b ∉ X.ex:=fun b z=>by rw[hex]at z;cases z
 have st:(hideAll s.heap (e::frs X.stack)).StaysIn s.heap:=fun b o q=>of_hideAll _ q
 have fr:s.heap.FunFrames (hideAll s.heap (e::frs X.stack)) (X.env::X.outer):=by
  have:=I.stack
  rw[hst]at this
  exact funFrames_hide this fun env he a ha=>List.mem_cons_of_mem _ (by rw[hst];exact List.mem_filterMap.mpr ⟨env,he,ha⟩)
 have un0:Un (frs X.outer) [] X.H₀ H X.s₀.heap s.heap:=I.base.mono (fun _ z=>z) fun b z=>absurd z (noA b)
 have k1:∀b o,X.s₀.heap.get? b=some o->b ∉ frs X.outer->∃o',(hideAll s.heap (e::frs X.stack)).get? b=some o':=fun b o q hb=>by
  obtain⟨o',q'⟩:=I.base.there b o q (noA b)
  refine⟨o',hideAll_get _ q' fun hm=>?_⟩
  rcases List.mem_cons.mp hm with z|z
  ·rw[z,hn]at q;cases q
  ·exact(Zax hst hf z).elim (Nat.ne_of_lt (Nat.lt_of_lt_of_le (Heap.lt_size q) I.ok.above)) hb
 have k2:∀b u,H b=some u->∃o,(hideAll s.heap (e::frs X.stack)).get? b=some o:=fun b u q=>by
  obtain⟨o,ho⟩:=ZhA (I.hok b u q)
  refine⟨o,hideAll_get _ ho fun hm=>?_⟩
  rcases List.mem_cons.mp hm with z|z
  ·rw[z,hu]at q;cases q
  ·rw[I.stkFree b z]at q;cases q
 refine ZcO (base:=hideAll s.heap (e::frs X.stack)) (by rw[<-hst];exact I.ok.frames) fr hf he st (hideAll_none _ (List.mem_cons_self)) rfl rfl fun h' fl u=>?_
 refine⟨e,.ref C,od,H,_,rfl,I.os,I.bare,Zc7 un0 st fl.stays k1 I.ok.frf (fun b hb o ho=>?_) u,Za1 I.hok k2 st fl.stays,fl,k1,k2,q⟩
 obtain⟨_,o',ho',hnf⟩:=fr.mem (by have:=Jf hst hb;rw[hst]at this;exact this)
 rw[ho]at ho';cases ho';exact hnf
end
def ZaV(C:Addr)(f:Str):Sp:=fun vs H Q _=>∃e fv y,vs=[.ref e,y]/\H e=some (XV C none fv e)/\∀dx,H dx=none->dx≠e->Q .non (upd (upd H dx (.xd [(f,y)])) e (XV C (some dx) fv e))
def Zg8(C:Addr)(f:Str)(E:XK)(t:TA):TS:=fun _ σ H=>t σ H fun vs H1=>∃y,vs=[y]/\∀dx,H1 dx=none->E (.ref C) (some dx) (upd H1 dx (.xd [(f,y)]))
section
variable{X:Cx}{k:Nat}{C D fI:Addr}{fd:FuncData}{ps:List Str}{E:XK}{x f:Str}{np pos cpos:Pos}{arg:Expr}{t:TA}
theorem J7(c:XCl X.K C D)(hi:findIn X.K (.ref C) "__init__"=some (some (.ref fI)))(hfn:isFn X.K (.ref fI)=true)
  (F:FnOk X.prog X.w X.K X.mg X.base CX0 k fI fd ps (ZaV C f))(hr:Room (k+1) X.A)(hb:L2.Binds X.K fd ps [])(hg:Gl X x)(hm:X.mg x=some (.ref C))(ha:PA X [arg] t)
  (hst:X.stack=X.env::X.outer)(hf:X.env.frame=some X.env.locals)(hex:X.ex=[])
  (hxe:∀e s',wpAny (model X.prog X.w) X.A (leaving X.env e) (fun _ s''=>CXe X.prog X.w X.outer X.H₀ X.s₀ E e s'') (fun e' s''=>CXe X.prog X.w X.outer X.H₀ X.s₀ E e' s'') s'->X.xe e s')
  (hdb:(x==("__debug__":Str))=false:=by decide) (he:starEach [arg] X.env=(false,eval arg X.env)::starEach [] X.env:=by rfl):
  PS X (.Raise (some (.Call (.Name x np) [arg] [] cpos)) none pos) (Zg8 C f E t):=by
 intro pins s σ H Dn I h
 refine ZdG (C:=C) (D:=D) hr.hd (wpAny_Call_Name_kw (Jg I hg hm ?_ hdb))
 refine PySem.W.callWith_K (h₀:=X.base) I.ok.mod.kin c.kp (thn (ha cpos pins s σ H _ I h) fun us s1⟨vs,H1,I1,r,y,ev,q⟩=>⟨I1.kIn,?_⟩) he rfl
 subst ev
 have hus:us.length=1:=r.length.symm
 have kin:=I1.kIn
 have hn:X.s₀.heap.get? (s1.heap.objs.size+1)=none:=Heap.get?_none_of_le (Nat.le_succ_of_le I1.sz)
 have hfree:H1 (s1.heap.objs.size+1)=none:=I1.hok.fresh (Nat.le_succ _)
 have e1:((s1.heap.push (Y3 us)).push (Zb5 C s1.heap.objs.size)).get? (s1.heap.objs.size+1)=some (Zb5 C s1.heap.objs.size):=by
  have:=Heap.get?_push_size (s1.heap.push (Y3 us)) (o:=Zb5 C s1.heap.objs.size) rfl
  rwa [Heap.size_push]at this
 have I0:=I1.kept (h':=s1.heap.push (Y3 us)) (t':=s1.toks) fun b u q=>Heap.get?_push_of_some _ q
 have I2:=I0.laid (a:=s1.heap.objs.size+1) (o:=XV C none (Zdv s1.heap.objs.size) (s1.heap.objs.size+1)) (h':=(s1.heap.push (Y3 us)).push (Zb5 C s1.heap.objs.size)) (t':=s1.toks)
  (fun b u q=>Heap.get?_push_of_some _ q) (Nat.le_of_eq (Heap.size_push _ _)) (XV.ok e1)
 have r2:Vals [V.ref (s1.heap.objs.size+1),y] (Value.ref (s1.heap.objs.size+1)::us):= .cons rfl r
 have hsp:ZaV C f [V.ref (s1.heap.objs.size+1),y] (upd H1 (s1.heap.objs.size+1) (XV C none (Zdv s1.heap.objs.size) (s1.heap.objs.size+1))) (fun v H'=>v= .non/\∃dx,H1 dx=none/\dx≠s1.heap.objs.size+1/\
   H'=upd (upd (upd H1 (s1.heap.objs.size+1) (XV C none (Zdv s1.heap.objs.size) (s1.heap.objs.size+1))) dx (.xd [(f,y)])) (s1.heap.objs.size+1) (XV C (some dx) (Zdv s1.heap.objs.size) (s1.heap.objs.size+1))) E0:=
  ⟨_,_,y,rfl,Zf,fun dx h1 h2=>⟨rfl,dx,by rwa [Zg h2]at h1,h2,rfl⟩⟩
 have hl:((Value.ref (s1.heap.objs.size+1)::us)++[]).length=ps.length:=by
  rw[List.append_nil,<-r2.length];exact F.len _ _ _ _ hsp
 have bd:=hb {s1 with heap:=(s1.heap.push (Y3 us)).push (Zb5 C s1.heap.objs.size)} (Value.ref (s1.heap.objs.size+1)::us) I2.kIn hl
 rw[List.append_nil]at bd
 refine ZbC (D:=D) (Zbz kin c.cls) (looks_findIn kin hi) (fun self=>bind_fn kin self (beq_iff_eq.mp hfn)) (wpAny_call (codeAny_mono (F.run _ X.stack _ _ ⟨Value.ref (s1.heap.objs.size+1)::us,[]⟩ _ _ _ E0 (hr.make C us [])
  (I2.env0.make C us []) bd r2 hsp) fun rr s' hq=>?_)) (by rw[List.nil_append,hus,sizeLine_eq];omega)
 cases rr with
 |error e=>exact False.elim hq
 |ok fl=>
  cases fl with
  |ret u=>
   obtain⟨v,H',I3,rv,ev,dx,g1,g2,g3⟩:=I2.after hq
   subst ev g3
   obtain rfl:u=Value.none:=rv
   have he:=XV.get (e:=s1.heap.objs.size+1) I3.hok Zf
   have I4:=ZfY (e:=s1.heap.objs.size+1) I3 Zf
   refine⟨rfl,s1.heap.objs.size+1,s1.heap.objs.size,some dx,rfl,Zbz I3.kIn c.cls,he,hxe _ _ (Zcj hst hf hex I4 hn he Zan ?_)⟩
   have e4:Zc6 (upd (upd (upd H1 (s1.heap.objs.size+1) (XV C none (Zdv s1.heap.objs.size) (s1.heap.objs.size+1))) dx (.xd [(f,y)])) (s1.heap.objs.size+1) (XV C (some dx) (Zdv s1.heap.objs.size) (s1.heap.objs.size+1))) (s1.heap.objs.size+1)
     =upd H1 dx (.xd [(f,y)]):=by
    funext b
    by_cases z:b=s1.heap.objs.size+1
    ·rw[z,Zan,Zg (Ne.symm g2),hfree]
    ·rw[YY z,Zg z]
     by_cases z2:b=dx
     ·rw[z2,Zf,Zf]
     ·rw[Zg z2,Zg z2,Zg z]
   rw[e4]
   exact q dx g1
  |next=>exact False.elim hq
  |brk=>exact False.elim hq
  |cont=>exact False.elim hq
end
end RX
namespace L2
open PySem PySem.Spec PyProof.Rows
structure OwnC(K:PySem.W.Frag)(C:Addr):Prop where
 cl:Cls K C
 ha:PySem.W.findIn K (.ref C) "__class__"=some (some (.builtin "object.__class__"))
 hn:PySem.W.specialIn K (.builtin "object.__class__") "__get__"=some (some (.builtin "getset_descriptor.__get__"))
 htk:PySem.W.takesIn K (.builtin "object.__class__")=some true
 hm:PySem.W.mroIn K C (.type "object")=some true
theorem OwnC.ty{K:PySem.W.Frag}{H:Hp}{a C dx:Addr}{fs:List (Str×V)}(o:OwnC K C)(e:H a=some (.ins C dx fs)):JQ K H (.ref a) (.ref C):= .ins e o.cl o.ha o.hn o.htk o.hm
section
variable{X:Cx}
theorem ZdS:∀{cs:List Addr}{us:List Value},Vals (cs.map V.ref) us->us=cs.map Value.ref
 |[],_,.nil=>rfl
 |c::cs,_,.cons h t=>by
  rw[ZdS t]
  cases(show _=Value.ref c from h)
  rfl
end
end L2
namespace RX
open PySem PySem.Spec PyProof.Rows L2 PySem.W
open Builtin Builtin.ObjectAttr
structure Zdg(K:Frag)(C:Addr):Prop where
 ga:findIn K (.ref C) "__getattribute__"=some (some (.builtin "BaseException.__getattribute__"))
 gh:findIn K (.ref C) "__getattr__"=some none
 hd:hasDictIn K C=true
 be:mroIn K C (.type "BaseException")=some true
 ob:mroIn K C (.type "object")=some true
 cl:findIn K (.ref C) "__class__"=some (some (.builtin "object.__class__"))
 cg:specialIn K (.builtin "object.__class__") "__get__"=some (some (.builtin "getset_descriptor.__get__"))
 ct:takesIn K (.builtin "object.__class__")=some true
theorem Zgo:builtinKind "BaseException.__getattribute__"=some .slot:=by decide+kernel
theorem Zfb:splitId "BaseException.__getattribute__"=some ("BaseException","__getattribute__"):=by decide+kernel
section
variable{prog:Program}{w:World}{A:Around}{E:Value->Shared->Prop}{s:Shared}{K:Frag}{x C:Addr}{ox:Obj}{od:Option Obj}{name:Str}{tk:Tok}{fill expr:Bool}{Q:Value->Shared->Prop}
theorem Zen(X:K.In s.heap)(I:InstAt s.heap x ox C od)(g:Zdg K C)
  (h:wpAny (model prog w) A.in1 (Builtin.«object.__getattribute__» ⟨[.ref x,.str name tk],[]⟩) (fun fin s'=>match fin with| .done (.ret v)=>wpAny (model prog w) A (handedOut v) Q E s'|_=>False)
   (fun _ _=>False) s):wpAny (model prog w) A (getAttrBy (.ref x) (.str name tk) fill expr) Q E s:=by
 obtain⟨hh,gg,d,t,os⟩:=s
 have L0:=I.type (M:=model prog w)
 have L1:=looks_findIn (M:=model prog w) X g.ga
 have L2:=looks_findIn (M:=model prog w) X g.gh
 have L3:Looks (model prog w) hh (isInstance (.ref x) (.type "BaseException")) true:=L0.andThen (looks_mroIn X g.be)
 have f3:=PySem.F.excAttr_ValueError.ga.bind (.ref x)
 have hx0:(expr&&onTheHeap (Value.builtin "BaseException.__getattribute__"))=false:=by cases expr<;>rfl
 have hx2:(Value.builtin "BaseException.__getattribute__"==Value.builtin "object.__getattribute__")=false:=by decide+kernel
 have hx1:(onTheHeap (Value.ref C)&&Value.builtin "BaseException.__getattribute__"==Value.builtin "object.__getattribute__")=false:=by rw[hx2];rfl
 unfold getAttrBy
 refine wpAny_holding (wpAny_bind (L0.here (s:=⟨hh,gg,d,t,os⟩) (wpAny_bind (L1.here (s:=⟨hh,gg,d,t,os⟩) ?_))))
 dsimp only
 rw[hx1]
 simp only[Bool.false_eq_true,if_false]
 unfold getAttrByItsOwn hookBefore
 rw[if_pos (show onTheHeap (Value.ref C)=true from rfl)]
 refine wpAny_bind (L2.here (s:=⟨hh,gg,d,t,os⟩) (wpAny_bind (wpAny_attempt (wpAny_holding ?_))))
 unfold callGetattribute
 rw[hx0]
 simp only[Bool.false_eq_true,if_false]
 unfold boundAndCalled
 rw[f3]
 refine wpAny_bind (wpAny_pure (wpAny_call ?_))
 refine codeAny_call_builtin PySem.F.excAttr_ValueError.ga.plain PySem.F.entry_bexc_ga ?_
 refine @check_slot (model prog w) _ _ ⟨hh,gg,d,t,os⟩ "BaseException.__getattribute__" "BaseException" "__getattribute__" (.ref x) [.str name tk] [] _ Zgo Zfb L3 (PySem.F.args_bexc_ga _ _) ?_
 refine wpAny_mono h (fun fin s' z=>?_) fun _ _ z=>False.elim z
 cases fin with
 |again c=>exact z.elim
 |done f=>
  cases f with
  |ret v=>exact z
  |next=>exact z.elim
  |brk=>exact z.elim
  |cont=>exact z.elim
theorem Zke{o:Obj}{v:Value}(X:K.In s.heap)(I:InstAt s.heap x ox C (some o))(g:Zdg K C)(ha:findIn K (.ref C) name=some none)(hl:lookIn name o=some (some v))(hh:handedIn v=true)(h:Q v {s with toks:=s.toks+1}):
  wpAny (model prog w) A (getAttr (.ref x) name expr) Q E s:=by
 have hf:findObj K C (some o) name=some (.value v):=findObj_own g.hd ha rfl hl
 unfold getAttr
 refine wpAny_bind (wpAny_mkText ?_)
 obtain⟨hp,gg,d,t,os⟩:=s
 have L0:=I.type (M:=model prog w)
 have L1:=looks_find (M:=model prog w) X I hf
 refine Zen (s:=⟨hp,gg,d,t+1,os⟩) X I g ?_
 refine wpAny_bind (wpAny_pure (wpAny_bind (wpAny_pure (wpAny_bind (L0.here (s:=⟨hp,gg,d,t+1,os⟩) (wpAny_bind (L1.here (s:=⟨hp,gg,d,t+1,os⟩) ?_)))))))
 refine wpAny_pure ?_
 exact handed_on hh h
theorem ZbA{od:Option Obj}{a g:Value}(hc:(clsIn K C).isSome=true)(ha:findIn K (.ref C) name=some (some a))(hg:specialIn K a "__get__"=some (some g))(ht:takesIn K a=some true):findObj K C od name=some (.bind g a):=by
 obtain⟨cd,hcd⟩:=Option.isSome_iff_exists.mp hc
 unfold findObj
 rw[hcd,Option.bind_some,ha,Option.bind_some]
 dsimp only
 rw[hg,Option.bind_some]
 dsimp only
 rw[ht,Option.bind_some]
theorem Zht{Q:Option Value->Shared->Prop}(X:K.In s.heap)(I:InstAt s.heap x ox C od)(g:Zdg K C)(h:Q (some (.ref C)) {s with toks:=s.toks+1}):wpAny (model prog w) A (getAttr? (.ref x) "__class__") Q E s:=by
 have hf:findObj K C od "__class__"=some (.bind (.builtin "getset_descriptor.__get__") (.builtin "object.__class__")):=
  ZbA (by obtain⟨cd,hc,_⟩:=any_some g.hd;rw[hc];rfl) g.cl g.cg g.ct
 unfold getAttr? getAttrBy?
 refine wpAny_bind (wpAny_mkText (wpAny_bind (wpAny_attempt ?_)))
 obtain⟨hp,gg,d,t,os⟩:=s
 have L0:=I.type (M:=model prog w)
 have L1:=looks_find (M:=model prog w) X I hf
 refine Zen (s:=⟨hp,gg,d,t+1,os⟩) X I g ?_
 refine wpAny_bind (wpAny_pure (wpAny_bind (wpAny_pure (wpAny_bind (L0.here (s:=⟨hp,gg,d,t+1,os⟩) (wpAny_bind (L1.here (s:=⟨hp,gg,d,t+1,os⟩) ?_)))))))
 show wpAny _ _ (bindTo (.builtin "getset_descriptor.__get__") (.builtin "object.__class__") (.ref x) (.ref C)) _ _ _
 unfold bindTo
 dsimp only
 refine wpAny_bind (wpAny_holding (wpAny_call (class_get (s:=⟨hp,gg,d,t+1,os⟩) X I g.ob ?_)))
 refine wpAny_pure ?_
 exact handed_on rfl (wpAny_pure h)
theorem ZfV(g:Zdg K C):KitX K (.ref x) (.ref C) (fun h=>∃ox od,InstAt h x ox C od)where
 ty:=fun _ _ _⟨_,_,I⟩=>I.type
 it:=fun _ _ X _=>by
  obtain⟨cdD,hcD,_⟩:=any_some g.hd
  unfold clsIn at hcD
  split at hcD
  ·rename_i c' d' cd' sl' ho
   intro A' Q' E' s' k q
   unfold isType loadHead
   exact wpAny_bind (wpAny_loadPart (k _ _ (X _ _ ho)) (wpAny_pure q))
  ·cases hcD
 ne:=fun h tp dd its n sl X htp=>by
  obtain⟨cdD,hcD,_⟩:=any_some g.hd
  refine Bool.eq_false_iff.mpr fun q=>?_
  have e:C=tp:=Value.ref.inj (beq_iff_eq.mp q)
  subst e
  unfold clsIn at hcD
  split at hcD
  ·rename_i c' d' cd' sl' ho
   have z:=(X _ _ ho).symm.trans htp
   cases z
  ·cases hcD
 ca:=fun X⟨_,_,I⟩ k=>Zht X I g k
end
def XO(C:Addr)(od:Option Addr)(e:Addr):HO:= .ext fun h=>∃o fv,h.get? e=some o/\o.cls= .ref C/\o.dict=od/\o.data= .fields fv
theorem XO.ok{P:Program}{w:World}{H:Hp}{h:Heap}{C e:Addr}{od:Option Addr}{o:Obj}{fv:Array Value}(e1:h.get? e=some o)(e2:o.cls= .ref C)(e3:o.dict=od)(e4:o.data= .fields fv):ObjOk P w H h e (XO C od e):=
 ⟨⟨o,fv,e1,e2,e3,e4⟩,⟨_,e1⟩,fun _ _⟨o,fv,p,r⟩ k=>⟨o,fv,k _ p,r⟩⟩
section
variable{P:Program}{w:World}{H:Hp}{h:Heap}{C e:Addr}{od:Option Addr}
theorem XO.get(x:HOk P w H h)(q:H e=some (XO C od e)):∃o fv,h.get? e=some o/\o.cls= .ref C/\o.dict=od/\o.data= .fields fv:=(x e _ q).1
theorem YR{o:Obj}{fv:Array Value}(h:o.data= .fields fv):notCls o=true:=by unfold notCls;rw[h]
theorem XO.inst(x:HOk P w H h)(q:H e=some (XO C od e))(hd:∀dx,od=some dx->∃u,H dx=some u):∃ox oo,InstAt h e ox C oo:=by
 obtain⟨o,fv,e1,e2,e3,e4⟩:=XO.get x q
 cases od with
 |none=>exact⟨o,none,e1,e2,YR e4,by rw[e3];trivial⟩
 |some dx=>
  obtain⟨u,hu⟩:=hd dx rfl
  obtain⟨o',ho'⟩:=ZhA (x dx u hu)
  exact⟨o,some o',e1,e2,YR e4,by rw[e3];exact ho'⟩
end
section
variable{X:Cx}{f:Str}{e:Expr}{ta:TE}{pos:Pos}
def ZiZ(K:Frag)(ta:TE)(f:Str):TE:=fun σ H Q=>ta σ H fun x H1=>∃a C dx fs v,x= .ref a/\H1 a=some (XO C (some dx) a)/\H1 dx=some (.xd fs)/\Zdg K C/\findIn K (.ref C) f=some none/\fs.lookup f=some v/\(∀n,v≠.ty n)/\Q v H1
theorem ZdX(he:PE X e ta)(hb:attributeBase e f X.env (eval e X.env)=eval e X.env):PE X (.Attribute e f pos) (ZiZ X.K ta f):=by
 intro pins s σ H Q I h
 refine Zew hb (thn (he pins s σ H _ I h) fun u s1⟨x,H1,I1,rx,a,C,dx,fs,v,ex,ea,ed,g,n,l,nt,q⟩=>?_)
 subst ex
 obtain rfl:u=Value.ref a:=rx
 obtain⟨o,fv,e1,e2,e3,e4⟩:=XO.get I1.hok ea
 obtain⟨mA,hns,r⟩:=(show ObjOk X.prog X.w H1 s1.heap dx (.xd fs)from I1.hok dx _ ed)
 obtain⟨u',hu,ru⟩:=RelO.some_of (v:=v) (o:=mA f) (by rw[<-l];exact r f)
 obtain⟨od,ho,hl⟩:=ZbI hns
 exact Zke I1.kIn ⟨e1,e2,YR e4,by rw[e3];exact ho⟩ g n (by rw[hl,hu]) (ZbM ru) ⟨v,H1,I1.tok _,ru,q⟩
def clV:V->Option Value
 | .ref a=>some (.ref a)
 | .ty n=>some (.type n)
 |_=>none
theorem Zhu{y:V}{c u:Value}(e:clV y=some c)(r:L2.RelV y u):u=c:=by
 cases y<;>cases e<;>exact r
def Zlf(K:Frag):List V->Hp->VK->Prop:=fun xs H Q=>∃a C od y c b,xs=[.ref a,y]/\H a=some (XO C od a)/\(∀dx,od=some dx->∃u,H dx=some u)/\Zdg K C/\clV y=some c/\kitOne K (.ref C) c=some b/\Q (.bl b) H
theorem Zc0:CallR X (.builtin "isinstance") (Zlf X.K):=by
 intro pins s σ H xs us Q I r h
 obtain⟨a,C,od,y,c,b,rfl,ea,hd,g,ec,e,q⟩:=h
 obtain⟨u,w',rfl,rx,ry⟩:=vals2 r
 cases(show u=Value.ref a from rx)
 cases Zhu ec ry
 exact kia_one (ZfV g) I.kIn (XO.inst I.hok ea hd) e (fun z=>nomatch z) fun tk=>⟨.bl b,H,I.tok tk,rfl,q⟩
def Zjn(K:Frag):List V->Hp->VK->Prop:=fun xs H Q=>∃a C od tp,∃(cs:List Addr)(b:Bool),xs=[.ref a,.ref tp]/\H a=some (XO C od a)/\(∀dx,od=some dx->∃u,H dx=some u)/\Zdg K C/\H tp=some (.tup (cs.map V.ref))/\
 kitAny K (.ref C) (cs.map Value.ref)=some b/\Q (.bl b) H
theorem ZbB:CallR X (.builtin "isinstance") (Zjn X.K):=by
 intro pins s σ H xs us Q I r h
 obtain⟨a,C,od,tp,cs,b,rfl,ea,hd,g,et,e,q⟩:=h
 obtain⟨u,w',rfl,rx,ry⟩:=vals2 r
 cases(show u=Value.ref a from rx)
 cases(show w'=Value.ref tp from ry)
 obtain⟨_,its,rv,o,h1,h2,n,h3⟩:=(show ObjOk X.prog X.w H s.heap tp (.tup (cs.map V.ref))from I.hok tp _ et)
 obtain⟨oc,od',odt,osl⟩:=o
 dsimp only at h2 h3
 subst h2 h3
 rw[ZdS rv]at h1
 exact kia_tup (ZfV g) I.kIn (XO.inst I.hok ea hd) h1 e (fun z=>nomatch z) fun tk=>⟨.bl b,H,I.tok tk,rfl,q⟩
end
end RX
namespace RX
open PySem PySem.Spec PyProof.Rows L2 PySem.W
section
variable{X:Cx}{pins:List (Addr×Obj)}{σ:L2.St}{H0 H':Hp}{s0 s':Shared}{e C:Addr}{cls fl fl':Value}{od:Option Addr}{B h':Heap}
structure Ly(X:Cx)(H0:Hp)(s0:Shared)(e:Addr)(cls:Value)(od:Option Addr)(H':Hp)(B:Heap)(fl:Value)(s':Shared):Prop where
 os:s'.os=s0.os
 bare:AllBare s'.gens
 un:Un (frs X.stack) [] H0 H' s0.heap s'.heap
 hok:HOk X.prog X.w H' s'.heap
 fly:Fl B X.stack e cls od fl s'.heap
 k1:∀b o,s0.heap.get? b=some o->b ∉ frs X.stack->∃o',B.get? b=some o'
 k2:∀b u,H' b=some u->∃o,B.get? b=some o
theorem Ly.to(x:Ly X H0 s0 e cls od H' B fl s')(I:L2.Inv X pins σ H0 s0)(f:Fl B X.stack e cls od fl' h')(u:s'.heap.UpToSlots h'):Ly X H0 s0 e cls od H' B fl' {s' with heap:=h'}:=by
 refine⟨x.os,x.bare,Zc7 x.un x.fly.stays f.stays x.k1 I.stkFree (fun b hb o ho=>?_) u,Za1 x.hok x.k2 x.fly.stays f.stays,f,x.k1,x.k2⟩
 obtain⟨_,o',ho',hnf⟩:=x.fly.frames.mem hb
 rw[ho]at ho';cases ho';exact hnf
theorem Ly.free(x:Ly X H0 s0 e cls od H' B fl s'):H' e=none:=by
 cases q:H' e with
 |none=>rfl
 |some u=>
  obtain⟨o,ho⟩:=x.k2 e u q
  rw[x.fly.new]at ho;cases ho
theorem Ly.fresh(x:Ly X H0 s0 e cls od H' B fl s'):s0.heap.get? e=none:=by
 cases q:s0.heap.get? e with
 |none=>rfl
 |some o=>
  by_cases hb:e∈frs X.stack
  ·obtain⟨_,o',ho',hnf⟩:=x.fly.frames.mem hb
   obtain⟨oe,vs,_,_,_,he,_,hd,_⟩:=x.fly.trace
   rw[he]at ho';cases ho'
   exact absurd hd (hnf vs)
  ·obtain⟨o',h⟩:=x.k1 e o q hb
   rw[x.fly.new]at h;cases h
theorem Ly.inv(x:Ly X H0 s0 e cls od H' B fl s')(I:L2.Inv X pins σ H0 s0):L2.Inv X pins σ H' s':=
 I.call' (ch:=[]) x.os x.un x.hok x.bare fun b z=>absurd z (by simp)
theorem Ly.track(x:Ly X H0 s0 e (.ref C) od H' B fl s')(I:L2.Inv X pins σ H0 s0):L2.Inv X pins σ (upd H' e (XO C od e)) s':=by
 have nf:=x.free
 have ne:∀b v,H' b=some v->b≠e:=fun b v q z=>by rw[z,nf]at q;cases q
 refine I.call' (ch:=[]) x.os ⟨x.un.keep,x.un.slot,fun b o q n hx=>?_,x.un.there,fun b xs q=>?_,fun b o xs q=>?_,fun b ps q=>?_⟩ (fun b u q=>?_) x.bare fun b z=>absurd z (by simp)
 ·rw[Zg (fun z=>by rw[z,x.fresh]at q;cases q)]
  exact x.un.free b o q n hx
 ·have r:=x.un.tups b xs q
  rw[Zg (ne b _ r)];exact r
 ·have r:=x.un.frzs b o xs q
  rw[Zg (ne b _ r)];exact r
 ·obtain⟨m,r⟩:=x.un.tbls b ps q
  exact⟨m,by rw[Zg (ne b _ r)];exact r⟩
 ·by_cases z:b=e
  ·subst z
   rw[Zf]at q;cases q
   obtain⟨oe,vs,_,_,_,he,⟨hc,hd⟩,hf,_⟩:=x.fly.trace
   exact XO.ok he hc hd hf
  ·rw[Zg z]at q
   refine(x.hok b u q).stay (fun _ _ _ r=>r) (fun c r=>?_) fun c xs r=>?_
   ·rw[Zg (ne c _ r)];exact r
   ·rw[Zg (ne c _ r)];exact r
end
abbrev mrk(X:Cx)(e:Addr):Cx:={X with A:=X.A.mark (some (.ref e)),calm:=false,xe:=fun _ _=>False}
section
variable{X:Cx}{pins:List (Addr×Obj)}{σ:L2.St}{H:Hp}{s:Shared}{e:Addr}
theorem Zek(I:L2.Inv X pins σ H s)(e:Addr):L2.Inv (mrk X e) pins σ H s:=
 have ok:=I.ok
 ⟨⟨ok.mod,ok.kind,ok.glob,ok.blt,ok.above,ok.inj,ok.has,ok.cab,(fun z=>Bool.noConfusion z),ok.frames,ok.stk,ok.exf,ok.bs,ok.bsz,ok.noex,ok.exfs,ok.funs,ok.frf⟩,I.os,I.bare,I.base,I.loc,I.cell,I.free,I.freeC,I.pin,I.hok,I.len⟩
theorem JA(ok:X.Ok)(I:L2.Inv (mrk X e) pins σ H s):L2.Inv X pins σ H s:=
 ⟨ok,I.os,I.bare,I.base,I.loc,I.cell,I.free,I.freeC,I.pin,I.hok,I.len⟩
theorem ZiD{pn:List (Addr×Obj)}{E:Value->Shared->Prop}(I:L2.Inv X pins σ H s)(h:∀p∈pn,p∈X.pn++pins):L2.Inv {X with pn:=pn,xe:=E} [] σ H s:=
 have ok:=I.ok
 ⟨⟨ok.mod,ok.kind,ok.glob,ok.blt,ok.above,ok.inj,ok.has,ok.cab,ok.hd,ok.frames,ok.stk,ok.exf,ok.bs,ok.bsz,ok.noex,ok.exfs,ok.funs,ok.frf⟩,I.os,I.bare,I.base,I.loc,I.cell,I.free,I.freeC,fun p hp=>I.pin p (h p (by simpa using hp)),I.hok,I.len⟩
theorem ZcQ{pn pins':List (Addr×Obj)}{E:Value->Shared->Prop}(ok:X.Ok)(I:L2.Inv {X with pn:=pn,xe:=E} pins' σ H s)(h:∀p∈X.pn++pins,p∈pn):L2.Inv X pins σ H s:=
 ⟨ok,I.os,I.bare,I.base,I.loc,I.cell,I.free,I.freeC,fun p hp=>I.pin p (List.mem_append_left _ (h p hp)),I.hok,I.len⟩
theorem ZaL{M:Model}{A:Around}{E:Value->Shared->Prop}{i:Nat}{n:Str}{pos:Pos}{Q:Unit->Shared->Prop}(I:L2.Inv X pins σ H s)(hN:X.N.Nodup)(hi:X.N[i]?=some n)(hk:X.env.scope.names.lookup n=some .local)
  (h:∀s',L2.Inv X pins (σ.set i none) H s'->Q () s'):wpAny M A (do bindName X.env n .none;unbindBehindTheSuite X.env n pos) Q E s:=by
 obtain⟨m,hn,hl⟩:=id I.loc
 have hcls:(X.env.scope.kind== .class||(X.env.scope.kind== .module&&X.env.locals !=X.env.globals))=false:=by rw[I.ok.kind];rfl
 have hiσ:i<σ.length:=by rw[I.len];exact(List.getElem?_eq_some_iff.mp hi).1
 obtain⟨oL,_,_,hoL,_⟩:=id hn
 refine wpAny_nameGoes_keeps hk hn hcls fun h' v hn' hs=>?_
 have tracked:HOk X.prog X.w H h':=fun b ob e=>by
  refine(I.hok b ob e).stay (fun c w' hc q=>(hs.2 c ?_).trans q) (fun _ q=>q) fun _ _ q=>q
  rintro rfl
  rcases hc with hc|hc
  ·rw[<-hc,I.free]at e;cases e
  ·rw[I.free]at hc;cases hc
 have low:∀b o,X.s₀.heap.get? b=some o->b≠X.env.locals:=fun b o e=>Nat.ne_of_lt (Nat.lt_of_lt_of_le (Heap.lt_size e) I.ok.above)
 refine h _ ⟨I.ok,I.os,I.bare,⟨fun b o e n hb hx=>?_,fun b o e n hb hx=>?_,I.base.free,fun b o e hx=>?_,I.base.tups,I.base.frzs,I.base.tbls⟩,⟨_,hn',fun j y v' e1 e2 e3=>?_⟩,fun y c e=>?_,I.free,I.freeC,fun p hp=>?_,tracked,by simpa using I.len⟩
 ·exact(hs.2 b (low b o e)).trans (I.base.keep b o e n hb hx)
 ·obtain⟨sl,e1⟩:=I.base.slot b o e n hb hx
  exact⟨sl,(hs.2 b (low b o e)).trans e1⟩
 ·obtain⟨o',e1⟩:=I.base.there b o e hx
  exact⟨o',(hs.2 b (low b o e)).trans e1⟩
 ·by_cases hj:j=i
  ·subst hj
   rw[List.getElem?_set_self hiσ]at e2
   cases e2
  ·rw[List.getElem?_set_ne (Ne.symm hj)]at e2
   obtain⟨u',r',q⟩:=hl j y v' e1 e2 e3
   refine⟨u',r',?_⟩
   rcases q with⟨k,e⟩|⟨k,c,e,z⟩
   ·refine .inl ⟨k,?_⟩
    have:y≠n:=fun e=>hj (Zbf hN e1 (e▸hi))
    simp[this,e]
   ·exact .inr ⟨k,c,e,z.sameBut hs (I.cne y c e)⟩
 ·obtain⟨w',z⟩:=I.cell y c e
  exact⟨w',z.sameBut hs (I.cne y c e)⟩
 ·obtain⟨e,n,ne,nf,d⟩:=I.pin p hp
  exact⟨(hs.2 p.1 ne).trans e,n,ne,nf,d⟩
end
theorem ZeH{M:Model}{A:Around}{E:Value->Shared->Prop}{s:Shared}{K:Frag}{e C C':Addr}{oe:Obj}{b:Bool}{Q:Bool->Shared->Prop}(X:K.In s.heap)(he:s.heap.get? e=some oe)(hc:oe.cls= .ref C)
  (k:kitCls K (.ref C) (.ref C')=some b)(hb:mroIn K C' (.type "BaseException")=some true)(q:Q b s):wpAny M A (excMatches (.ref e) (.ref C')) Q E s:=by
 obtain⟨hty,his,hsub⟩:=kit_cls (M:=M) X k
 obtain⟨hh,g,d,t,os⟩:=s
 have L1:Looks M hh (isInstance (.ref C') (.type "tuple")) false:=hty.andThen (Looks.of_pure tc_notTuple)
 have L2:Looks M hh (isExcClass (.ref C')) true:=by
  unfold isExcClass
  refine his.andThen ?_
  rw[if_pos rfl]
  exact looks_mroIn X hb
 have L3:Looks M hh (typeOf (.ref e)) (.ref C):=hc▸(Looks.ld he).andThen .now
 unfold excMatches
 refine wpAny_bind (L1.here (s:=⟨hh,g,d,t,os⟩) ?_)
 simp only[Bool.false_eq_true,if_false]
 refine wpAny_bind (wpAny_pure (wpAny_bind ?_))
 rw[List.forIn_cons]
 refine wpAny_bind (wpAny_bind (L2.here (s:=⟨hh,g,d,t,os⟩) ?_))
 simp only[Bool.not_true,Bool.false_eq_true,if_false]
 refine wpAny_pure ?_
 dsimp only
 rw[List.forIn_nil]
 refine wpAny_pure (wpAny_bind (L3.here (s:=⟨hh,g,d,t,os⟩) (wpAny_bind ?_)))
 rw[List.forIn_cons]
 refine wpAny_bind (wpAny_bind (hsub.here (s:=⟨hh,g,d,t,os⟩) ?_))
 cases b with
 |true=>exact wpAny_pure (wpAny_pure (wpAny_pure q))
 |false=>
  simp only[Bool.false_eq_true,if_false]
  refine wpAny_pure ?_
  dsimp only
  rw[List.forIn_nil]
  exact wpAny_pure (wpAny_pure q)
abbrev TH:=L2.St->Value->Option Addr->Hp->Ends->Prop
def PH(X:Cx)(hs:List ExceptHandler)(th:TH):Prop:=∀(pins:List (Addr×Obj))(σ:L2.St)(H0:Hp)(s0:Shared)(e:Addr)(cls:Value)(od:Option Addr)(H':Hp)(B:Heap)(s':Shared)(D:Ends),
 L2.Inv X pins σ H0 s0->Ly X H0 s0 e cls od H' B .none s'->th σ cls od H' D->wpAny (model X.prog X.w) X.A (handleBy (.ref e) X.env hs) (SP X pins D) X.xe s'
abbrev ZhL(X:Cx)(pn:List (Addr×Obj))(E:Value->Shared->Prop):Cx:={X with pn:=pn,xe:=E}
def Zgr(X:Cx)(Ex:L2.St->XK):Prop:=∀(pins:List (Addr×Obj))(σ:L2.St)(H:Hp)(s:Shared)(e:Value)(s':Shared),L2.Inv X pins σ H s->CXe X.prog X.w X.stack H s (Ex σ) e s'->X.xe e s'
def ZkY(tb:(L2.St->XK)->TS)(th:TH):TS:=fun D σ H=>tb (fun σ' cls od H'=>th σ' cls od H' D) D σ H
section
variable{X:Cx}{body suite:List Stmt}{h₀:ExceptHandler}{hs rest:List ExceptHandler}{tb:(L2.St->XK)->TS}{th:TH}{pos hpos cp:Pos}
theorem Zfv(hst:X.stack=X.env::X.outer)(hf:X.env.frame=some X.env.locals)(hb:∀pn E Ex,Zgr (ZhL X pn E) Ex->PSs (ZhL X pn E) body (tb Ex)) (hh:PH X (h₀::hs) th):PS X (.Try body (h₀::hs) [] [] pos) (ZkY tb th):=by
 intro pins s σ H D I h
 refine wpAny_Try_except ?_
 refine wpAny_mono (hb (X.pn++pins) (fun ev s₁=>wpAny (model X.prog X.w) X.A (noteFrame ev X.env) (fun _ s₂=>wpAny (model X.prog X.w) X.A (setFlight ev none) (fun _ s₃=>wpAny (model X.prog X.w) X.A (handleBy ev X.env (h₀::hs)) (SP X pins D) X.xe s₃) X.xe s₂) X.xe s₁)
  (fun σ' cls od H'=>th σ' cls od H' D) (fun pins' σ' H1 s1 ev s' I1 x=>?_) [] s σ H D (ZiD I fun p hp=>hp) h) (fun f s1 q=>?_) fun _ _ q=>q
 ·have I2:L2.Inv X pins σ' H1 s1:=ZcQ I.ok I1 fun p hp=>hp
  obtain⟨e,cls,od,H',B,rfl,os,bare,un,hok,fl,k1,k2,q⟩:=x
  have y:Ly X H1 s1 e cls od H' B .none s':=⟨os,bare,un,hok,fl,k1,k2⟩
  have fl':Fl B (X.env::X.outer) e cls od .none s'.heap:=by rw[<-hst];exact fl
  show wpAny (model X.prog X.w) X.A (noteFrame (.ref e) X.env) _ _ s'
  refine Zec (by rw[<-hst];exact I.ok.frames) hf fl' fun h1 f1 u1=>?_
  rw[<-hst]at f1
  have y1:=y.to I2 f1 u1
  refine Jk (s:={s' with heap:=h1}) f1 fun h2 f2 u2=>?_
  exact hh pins σ' H1 s1 e cls od H' B _ D I2 (y1.to I2 f2 u2) q
 ·have up:∀{σ':L2.St}{H':Hp}{EE:Value->Shared->Prop},L2.Inv (ZhL X (X.pn++pins) EE) [] σ' H' s1->L2.Inv X pins σ' H' s1:=fun J=>ZcQ I.ok J fun p hp=>hp
  cases f with
  |next=>obtain⟨σ',H',J,r⟩:=q;exact wpAny_pure ⟨σ',H',up J,r⟩
  |brk=>obtain⟨σ',H',J,r⟩:=q;exact⟨σ',H',up J,r⟩
  |cont=>obtain⟨σ',H',J,r⟩:=q;exact⟨σ',H',up J,r⟩
  |ret u=>obtain⟨v,σ',H',J,rv,r⟩:=q;exact⟨v,σ',H',up J,rv,r⟩
theorem Zfy:PH X [] (fun _ _ _ _ _=>False):=fun _ _ _ _ _ _ _ _ _ _ _ _ _ h=>h.elim
def unE(i:Nat)(D:Ends):Ends:={nx:=fun σ H=>D.nx (σ.set i none) H,rt:=D.rt,bk:=fun σ H=>D.bk (σ.set i none) H,ct:=fun σ H=>D.ct (σ.set i none) H}
def ZkD(K:Frag)(C':Addr)(i:Nat)(ts:TS)(th:TH):TH:=fun σ cls od H D=>∃C b,cls= .ref C/\kitCls K (.ref C) (.ref C')=some b/\
 if b=true then∀e,H e=none->ts (unE i D) (σ.set i (some (.ref e))) (upd H e (XO C od e))else th σ cls od H D
theorem Zh7{c n:Str}{C':Addr}{i:Nat}{b₀:Stmt}{ts:TS}(hg:Gl X c)(hm:X.mg c=some (.ref C'))(hbe:mroIn X.K C' (.type "BaseException")=some true)(hN:X.N.Nodup)(hi:X.N[i]?=some n)
  (hk:X.env.scope.names.lookup n=some .local)(hs:∀e,PSs (mrk X e) (b₀::suite) ts) (hr:PH X rest th) (hdb:(c==("__debug__":Str))=false:=by decide):
  PH X (.ExceptHandler (some (.Name c cp)) (some n) (b₀::suite) hpos::rest) (ZkD X.K C' i ts th):=by
 intro pins σ H0 s0 e cls od H' B s' D I y h
 obtain⟨C,b,rfl,hkit,h⟩:=h
 have J:=y.inv I
 have Jm:=Zek J e
 obtain⟨oe,vs,_,_,_,he,⟨hc,_⟩,_⟩:=y.fly.trace
 refine wpAny_handleBy_cons (codeAny_handlers_test (Jg (X:=mrk X e) Jm hg hm ?_ hdb)) (by intro q;cases q)
 refine ZeH J.kIn he hc hkit hbe ?_
 cases b with
 |false=>
  rw[if_neg (by decide)]at h
  exact hr pins σ H0 s0 e _ od H' B s' D I y h
 |true=>
  rw[if_pos rfl]at h
  refine codeAny_handlers_suite_as ?_
  refine Jk y.fly fun h2 f2 u2=>?_
  have y2:=y.to I f2 u2
  have J2:=Zek (y2.track I) e
  refine JS (X:=mrk X e) J2 hN hi (.inl hk) (v:= .ref e) rfl (fun s3 J3=>?_) (.inr hk)
  refine wpAny_mono (hs e pins s3 _ _ (unE i D) J3 (h e y.free)) (fun f s4 q=>?_) fun _ _ z=>False.elim z
  have ok:=I.ok
  cases f with
  |next=>obtain⟨σ',H4,J4,r⟩:=q;exact ZaL (JA ok J4) hN hi hk fun s5 J5=>⟨_,_,J5,r⟩
  |brk=>obtain⟨σ',H4,J4,r⟩:=q;exact ZaL (JA ok J4) hN hi hk fun s5 J5=>⟨_,_,J5,r⟩
  |cont=>obtain⟨σ',H4,J4,r⟩:=q;exact ZaL (JA ok J4) hN hi hk fun s5 J5=>⟨_,_,J5,r⟩
  |ret u=>obtain⟨v,σ',H4,J4,rv,r⟩:=q;exact ZaL (JA ok J4) hN hi hk fun s5 J5=>⟨v,_,_,J5,rv,r⟩
end
def ZhU(sp:Sp)(dvs:List V)(Ex:L2.St->XK)(t:TA):TE:=fun σ H Q=>t σ H fun vs H1=>sp (vs++dvs) H1 Q (Ex σ)
section
variable{X:Cx}{k:Nat}{f:Addr}{fd:FuncData}{ps:List Str}{sp:Sp}{dvs:List V}{ds:List Value}{Ex:L2.St->XK}{x:Str}{p pos:Pos}{e:Expr}{es:List Expr}{t:TA}
theorem Zbb(F:FnOk X.prog X.w X.K X.mg X.base (CXe X.prog X.w) k f fd ps sp)(hr:Room k X.A)(hg:Gl X x)(hm:X.mg x=some (.ref f))(hk:PySem.W.keepIn X.K (.ref f)=true)(hb:L2.Binds X.K fd ps ds)(hd:Vals dvs ds)(hx:Zgr X Ex)
  (ha:PA X (e::es) t)(hdb:(x==("__debug__":Str))=false:=by decide)(he:starEach (e::es) X.env=(false,eval e X.env)::starEach es X.env:=by rfl)(hpl:(backTo pos (starEach es X.env)).any (·.1)=false:=by rfl):
  PE X (.Call (.Name x p) (e::es) [] pos) (ZhU sp dvs Ex t):=by
 intro pins s σ H Q I h
 refine wpAny_Call_Name_kw (Jg I hg hm ?_ hdb)
 refine PySem.W.callWith_K (h₀:=X.base) I.ok.mod.kin hk (thn (ha pos pins s σ H _ I h) fun us s1⟨vs,H1,I1,r,q⟩=>⟨I1.kIn,?_⟩) he hpl
 have r2:Vals (vs++dvs) (us++ds):=r.append hd
 have hl:(us++ds).length=ps.length:=by rw[<-r2.length];exact F.len _ _ _ _ q
 refine wpAny_call (codeAny_mono (F.run X.A X.stack s1 H1 ⟨us,[]⟩ (us++ds) (vs++dvs) Q (Ex σ) hr I1.env0 (hb s1 us I1.kIn hl) r2 q) fun r s' hq=>?_)
 cases r with
 |error e=>exact hx pins σ H1 s1 e s' I1 hq
 |ok fl=>
  cases fl with
  |ret u=>exact I1.after hq
  |next=>exact False.elim hq
  |brk=>exact False.elim hq
  |cont=>exact False.elim hq
end
structure RoomM(k:Nat)(A:Around):Prop where
 dp:A.depth+3*k+5<recursionLimit
 un:A.units+16*k+200<cLine
theorem RoomM.units{k:Nat}{A:Around}(r:RoomM k A):A.units+64<cLine:=by have:=r.un;omega
theorem Zhg{P:Program}{w:World}{K:Frag}{mg:Str->Option Value}{base:Heap}{x qual:Str}{st:Stmt}{f:Addr}{fd:FuncData}{N ps:List Str}{k:Nat}{sp:Sp}(F:L2.Fun K x qual st f fd)(S:Zx N ps (L2.Zd st))(len:∀vs H Q E,sp vs H Q E->vs.length=ps.length)
  (hbody:∀(cdv:Value)(A:Around)(outer:List Env)(s:Shared)(H:Hp)(vs:List V)(Q:VK)(E:XK),Room k (A.deeper (envOfC qual (L2.Zd st) s.heap.objs.size f cdv))->sp vs H Q E->
   ∃t,PSs (ZF (CXe P w) P w K mg base N qual (L2.Zd st) f cdv A outer s H E) (L2.Zj st) t/\t {nx:=fun _ H'=>Q .non H',rt:=Q} (start N vs) H):FnOk P w K mg base (CXe P w) (k+1) f fd ps sp:=by
 obtain⟨oc,od,kV,doc,pm,an,cdv,ct,osl,rfl,lk,hcd⟩:=F.ex
 exact ZcU lk hcd S len fun A outer s H vs Q E hr hsp=>hbody cdv A outer s H vs Q E hr hsp
end RX
namespace L2
open PySem PySem.Spec PyProof.Rows
theorem JP:∀(names:List (Str×NameKind))(n:Nat)(acc:List (Str×Addr)),cellsFrom n names acc=cellsFrom n names []++acc
 |[],_,_=>rfl
 |(x,k)::r,n,acc=>by
  unfold cellsFrom
  split
  ·rw[JP r (n+1) ((x,n)::acc),JP r (n+1) [(x,n)],List.append_assoc]
   rfl
  ·exact JP r n acc
theorem Za2:∀{names:List (Str×NameKind)}{n:Nat}{x:Str}{c:Addr},(x,c)∈cellsFrom n names []->(x,NameKind.cell)∈names/\n<=c
 |[],_,_,_,h=>by cases h
 |(y,k)::r,n,x,c,h=>by
  unfold cellsFrom at h
  split at h
  ·rename_i hk
   rw[JP]at h
   rcases List.mem_append.mp h with z|z
   ·have:=Za2 z
    exact⟨.tail _ this.1,by omega⟩
   ·cases List.mem_singleton.mp z
    rw[show k=NameKind.cell from by simpa using hk]
    exact⟨.head _,Nat.le_refl _⟩
  ·exact⟨.tail _ (Za2 h).1,(Za2 h).2⟩
theorem JN{α:Type}:∀{l m:List (Str×α)}{x:Str}{c:α},(l++m).lookup x=some c->l.lookup x=some c\/(l.lookup x=none/\m.lookup x=some c)
 |[],_,_,_,h=> .inr ⟨rfl,h⟩
 |(y,d)::r,m,x,c,h=>by
  rw[List.cons_append]at h
  cases hx:x==y with
  |true=>simp only[List.lookup_cons,hx]at h⊢;exact .inl h
  |false=>simp only[List.lookup_cons,hx]at h⊢;exact JN h
theorem JY{α:Type}:∀{l m:List (Str×α)}{x:Str}{c:α},l.lookup x=none->m.lookup x=some c->(l++m).lookup x=some c
 |[],_,_,_,_,h=>h
 |(y,d)::r,m,x,c,hn,h=>by
  rw[List.cons_append]
  cases hx:x==y with
  |true=>simp only[List.lookup_cons,hx]at hn;cases hn
  |false=>simp only[List.lookup_cons,hx]at hn⊢;exact JY hn h
theorem JD{env:Env}:∀{names:List (Str×NameKind)}{x:Str},
  ((names.map fun(n,k)=>if(k==NameKind.free&&env.scope.kind== .function&&env.kindOf n==some .cell)then(n,NameKind.cell)else(n,k)).lookup x=some .cell\/
  (names.map fun(n,k)=>if(k==NameKind.free&&env.scope.kind== .function&&env.kindOf n==some .cell)then(n,NameKind.cell)else(n,k)).lookup x=some .free)->names.lookup x=some .free\/names.lookup x=some .cell
 |[],_,h=>by simp at h
 |(n,k)::r,x,h=>by
  have ih:=@JD env r x
  simp only[List.map_cons]at h
  cases hx:x==n with
  |true=>
   by_cases hc:(k==NameKind.free&&env.scope.kind== .function&&env.kindOf n==some .cell)=true
   ·simp only[Bool.and_eq_true,beq_iff_eq]at hc
    simp only[List.lookup_cons,hx]
    rw[hc.1.1]
    exact .inl rfl
   ·rw[if_neg hc]at h
    simp only[List.lookup_cons,hx]at h⊢
    exact h.elim .inr .inl
  |false=>
   simp only[List.lookup_cons,hx]
   by_cases hc:(k==NameKind.free&&env.scope.kind== .function&&env.kindOf n==some .cell)=true
   ·rw[if_pos hc]at h;simp only[List.lookup_cons,hx]at h;exact ih h
   ·rw[if_neg hc]at h;simp only[List.lookup_cons,hx]at h;exact ih h
theorem Zco{M:Model}{A:Around}{E:Value->Shared->Prop}{s:Shared}{scope:Scope}{globals:Addr}{cl:List (Str×Addr)}{qual:Str}{env:Env}{Q:Env->Shared->Prop}
  (hQ:∀h':Heap,h'.Ns s.heap.objs.size (fun _=>none)->(∀b o,s.heap.get? b=some o->h'.get? b=some o)->CellsOk h' (s.heap.objs.size+1) (cellsFrom (s.heap.objs.size+1) scope.names [])->
   Q {scope,locals:=s.heap.objs.size,globals,cells:=cellsFrom (s.heap.objs.size+1) scope.names cl,qual,func:=none,code:=env.code,frame:=env.frame,builtins:=env.builtins} {s with heap:=h'}):
  wpAny M A (newFunctionEnv scope globals cl [] qual none .none (some env)) Q E s:=by
 simp only[newFunctionEnv,Option.isSome_some,if_true]
 refine wpAny_bind (wpAny_alloc ?_)
 refine wpAny_bind (wpAny_layCells _ (fun name kind cells=>by cases hkc:kind==NameKind.cell<;>simp[hkc]) _ _ _ _ ?_)
 have ok:=cellsFrom_ok scope.names (s.heap.push {cls:= .type "dict",data:= .dict #[]}) (s.heap.objs.size+1) [] ⟨fun _ _ hm=>(nomatch hm),List.Pairwise.nil⟩ (by rw[Heap.size_push];exact Nat.le_refl _)
 rw[Heap.size_push]at ok
 rw[show({s with heap:=s.heap.push {cls:= .type "dict",data:= .dict #[]}}:Shared).heap.objs.size=s.heap.objs.size+1 from Heap.size_push ..]
 rw[List.forIn_nil]
 exact wpAny_bind (wpAny_pure (wpAny_pure (hQ _ ((Heap.Ns.new s.heap (.type "dict")).keeps (pushCells_keeps _ _)) (fun b o e=>pushCells_keeps _ _ b o (Heap.get?_push_of_some _ e)) ok)))
def Yd(X:Cx)(scope:Scope)(cl:List (Str×Addr))(C:Addr)(N:List Str)(fp:List Addr)(s:Shared)(H:Hp):Cx:=
 {X with N:=N,s₀:=s,H₀:=H,env:=compEnvC scope (cellsFrom (C+1) scope.names cl) C X.env,outer:=X.stack,ex:=fp,fn:=fun x=>decide (scope.names.lookup x=some .cell),pn:=[],xe:=fun _ _=>False}
structure BlkC(X:Cx)(scope:Scope)(cl:List (Str×Addr))(N:List Str)(bs:List (Option Nat)):Prop where
 clos:closureFor scope X.env=pure cl
 kind:scope.kind= .function
 cell:∀y∈scope.names,y.2= .cell->scope.names.lookup y.1=some .cell
 names:∀y∈scope.names,y.2= .local->scope.names.lookup y.1=some .local
 cl1:∀p∈cl,X.env.cells.lookup p.1=some p.2
 cl2:∀y∈scope.names,y.2= .free->(cl.lookup y.1).isSome=true
 bs:BsOk X.N X.env.scope.names scope.names N bs
section
variable{X:Cx}{scope:Scope}{cl:List (Str×Addr)}{N:List Str}{bs:List (Option Nat)}{pins:List (Addr×Obj)}{σ:St}{H:Hp}{s:Shared}{fp:List Addr}{C:Addr}
theorem BlkC.c1(B:BlkC X scope cl N bs){x:Str}{c:Addr}(h:cl.lookup x=some c):X.env.cells.lookup x=some c:=B.cl1 (x,c) (PySem.mem_of_lookup h)
theorem BlkC.either(B:BlkC X scope cl N bs){x:Str}{c:Addr}(h:(cellsFrom (C+1) scope.names cl).lookup x=some c):(C<c/\(x,c)∈cellsFrom (C+1) scope.names [])\/X.env.cells.lookup x=some c:=by
 rw[JP]at h
 rcases JN h with z|⟨_,z⟩
 ·have m:=PySem.mem_of_lookup z
  exact .inl ⟨(Za2 m).2,m⟩
 ·exact .inr (B.c1 z)
theorem BlkC.fr(B:BlkC X scope cl N bs){x:Str}{c:Addr}(hx:scope.names.lookup x=some .free)(h:cl.lookup x=some c):(cellsFrom (C+1) scope.names cl).lookup x=some c:=by
 rw[JP]
 refine JY ?_ h
 cases q:(cellsFrom (C+1) scope.names []).lookup x with
 |none=>rfl
 |some c'=>
  have:=B.cell _ (Za2 (PySem.mem_of_lookup q)).1 rfl
  rw[hx]at this
  cases this
theorem BlkC.c2(B:BlkC X scope cl N bs){x:Str}(h:(compEnvC scope (cellsFrom (C+1) scope.names cl) C X.env).kindOf x=some .cell\/(compEnvC scope (cellsFrom (C+1) scope.names cl) C X.env).kindOf x=some .free):∃c,(cellsFrom (C+1) scope.names cl).lookup x=some c:=by
 rcases JD (env:=X.env) h with z|z
 ·obtain⟨c,e⟩:=Option.isSome_iff_exists.mp (B.cl2 (x,.free) (PySem.mem_of_lookup z) rfl)
  exact⟨c,B.fr z e⟩
 ·exact Option.isSome_iff_exists.mp (PySem.W.cellsFrom_some scope.names (C+1) cl (.inl z))
theorem BlkC.ok(B:BlkC X scope cl N bs)(I:Inv X pins σ H s)(hf:∀b∈fp,FpOk X pins H b) (ho:∀b∈fp,∃o,s.heap.get? b=some o/\∀v,o.data≠.cell v) (hC:s.heap.objs.size<=C) (ap:(cellsFrom (C+1) scope.names []).Pairwise fun x y=>x.2≠y.2):(Yd X scope cl C N fp s H).Ok:=by
 have lo:∀x c,X.env.cells.lookup x=some c->c<s.heap.objs.size:=fun x c e=>by
  obtain⟨v,o,ho,_⟩:=I.cell x c e
  exact Heap.lt_size ho
 refine⟨I.ok.mod,B.kind,I.ok.glob,I.ok.blt,hC,fun x y c h1 h2=>?_,fun x h=>B.c2 h,fun x c h h2=>?_,I.ok.hd,I.ok.frames,.inl rfl,fun b hb=>?_,I.bs,Nat.le_trans I.ok.bsz I.sz,fun b o e hb=>?_,fun b hb hb'=>?_,I.stack,I.stkFree⟩
 ·rcases B.either h1 with⟨l1,m1⟩|e1<;>rcases B.either h2 with⟨l2,m2⟩|e2
  ·exact name_of_addr ap m1 m2
  ·exact absurd (Nat.lt_of_lt_of_le (lo _ _ e2) (Nat.le_trans hC (Nat.le_of_lt l1))) (Nat.lt_irrefl _)
  ·exact absurd (Nat.lt_of_lt_of_le (lo _ _ e1) (Nat.le_trans hC (Nat.le_of_lt l2))) (Nat.lt_irrefl _)
  ·exact I.ok.inj x y c e1 e2
 ·have hx:scope.names.lookup x=some .cell:=of_decide_eq_true h
  have h2':(cellsFrom (C+1) scope.names cl).lookup x=some c:=h2
  rw[JP]at h2'
  obtain⟨c',e⟩:=Option.isSome_iff_exists.mp (PySem.W.cellsFrom_some scope.names (C+1) [] (.inl hx))
  rcases JN h2' with z|⟨z,_⟩
  ·have:=(Za2 (PySem.mem_of_lookup z)).2
   show s.heap.objs.size<=c
   omega
  ·rw[z]at e;cases e
 ·obtain⟨o,e,_⟩:=ho b hb
  obtain⟨_,_,_,_,f4,_⟩:=hf b hb
  have hlt:=Heap.lt_size e
  refine⟨Nat.ne_of_lt (Nat.lt_of_lt_of_le hlt hC),fun x c h=>?_⟩
  rcases B.either h with⟨l,_⟩|e'
  ·exact fun z=>absurd (Nat.lt_of_lt_of_le hlt (Nat.le_trans hC (Nat.le_of_lt (z▸l)))) (Nat.lt_irrefl _)
  ·exact f4 x c e'
 ·obtain⟨_,_,_,f3,_⟩:=hf b hb
  rcases f3 with z|z
  ·exact I.ok.noex b o e z
  ·exact absurd (Nat.lt_of_lt_of_le (Heap.lt_size e) (Nat.le_trans I.ok.bsz z)) (Nat.lt_irrefl _)
 ·obtain⟨_,f1,f2,_⟩:=hf b hb
  rcases List.mem_cons.mp (I.stkSub b hb')with z|z
  ·exact f1 z
  ·exact f2 z
theorem BlkC.inv(B:BlkC X scope cl N bs)(I:Inv X pins σ H s)(hf:∀b∈fp,FpOk X pins H b) (ho:∀b∈fp,∃o,s.heap.get? b=some o/\∀v,o.data≠.cell v) (hC:s.heap.objs.size<=C) {h':Heap}
  (hk:∀b o,s.heap.get? b=some o->h'.get? b=some o) (cs:CellsOk h' (C+1) (cellsFrom (C+1) scope.names [])) {m:Str->Option Value} (hn:h'.Ns C m) {D:Addr} {oD:Obj} (hD:h'.get? D=some oD) (hD1:s.heap.objs.size<=D) (hDC:D≠C) (hDd:∀v,oD.data≠.cell v):
  Inv (Yd X scope cl C N fp s H) [(D,oD)] (bst bs σ) H {s with heap:=h'}:=by
 have ok:(Yd X scope cl C N fp s H).Ok:=B.ok I hf ho hC cs.apart
 refine⟨ok,rfl,I.bare,Un.kept hk,⟨m,hn,fun i x v e1 e2 e3=>?_⟩,fun x c h=>?_,I.hok.fresh hC,fun x c h=>?_,fun p hp=>?_,I.hok.kept hk,?_⟩
 ·have e2':(bst bs σ)[i]?=some (some v):=e2
  unfold bst at e2'
  rw[List.getElem?_map]at e2'
  cases q:bs[i]? with
  |none=>rw[q]at e2';cases e2'
  |some o=>
   rw[q]at e2'
   cases o with
   |none=>cases e2'
   |some j=>
    obtain⟨y,y1,y2,y3,y4⟩:=B.bs.get q
    have e1':N[i]?=some x:=e1
    rw[e1']at y1
    cases y1
    have e4:σ[j]?=some (some v):=by
     have z:(σ[j]?).join=some v:=Option.some.inj e2'
     cases w:σ[j]? with
     |none=>rw[w]at z;cases z
     |some o=>rw[w]at z;rw[show o=some v from z]
    obtain⟨mx,hmx,lx⟩:=I.loc
    obtain⟨u,r,l⟩:=lx j x v y2 e4 (.inr (.inl y3))
    refine⟨u,r,.inr ⟨Ja (env:=X.env) y4,?_⟩⟩
    rcases l with⟨l1,_⟩|⟨_,c,l2,l3⟩
    ·have l1':X.env.scope.names.lookup x=some .local:=l1
     rw[y3]at l1'
     cases l1'
    ·obtain⟨c',h'⟩:=Option.isSome_iff_exists.mp (B.cl2 (x,.free) (PySem.mem_of_lookup y4) rfl)
     have h2:=B.c1 h'
     rw[l2]at h2
     cases h2
     obtain⟨oc,hoc,hd⟩:=l3
     exact⟨c,B.fr y4 h',oc,hk _ _ hoc,hd⟩
 ·rcases B.either h with⟨_,mm⟩|e
  ·exact⟨none,(cs.empty x c mm).1⟩
  ·obtain⟨v,oc,hoc,hd⟩:=I.cell x c e
   exact⟨v,oc,hk _ _ hoc,hd⟩
 ·rcases B.either h with⟨l,_⟩|e
  ·exact I.hok.fresh (Nat.le_trans hC (Nat.le_of_lt l))
  ·exact I.freeC x c e
 ·have e:p=(D,oD):=by simpa[Yd]using hp
  subst e
  refine⟨hD,I.hok.fresh hD1,hDC,fun z=>?_,hDd⟩
  have z':D∈frs X.stack:=z
  rcases List.mem_cons.mp (I.stkSub D z')with q|q
  ·exact Nat.lt_irrefl _ (Nat.lt_of_lt_of_le I.lt (by rw[<-q];exact hD1))
  ·exact I.nofs hD1 q
 ·show(bst bs σ).length=N.length
  unfold bst
  rw[List.length_map]
  exact B.bs.len
end
theorem Zio{X:Cx}{scope:Scope}{cl:List (Str×Addr)}{N:List Str}{bs:List (Option Nat)}{tg iter elt:Expr}{ifs:List Expr}{pos:Pos}{wi:TI}{g:TG}{tt:TT}{te:TE}(B:BlkC X scope cl N bs)(hc:X.calm=true)
  (hi:PI X tg iter wi)(hg:∀C fp s H,PG (Yd X scope cl C N fp s H) tg g) (ht:∀C fp s H,PTs (Yd X scope cl C N fp s H) ifs tt) (he:∀C fp s H,PE (Yd X scope cl C N fp s H) elt te)
  (hs:∀x,foldedSetIterable iter X.env x=pure x:=by intro _;rfl):
  PE X (.ListComp elt [⟨tg,iter,ifs,0⟩] scope pos) (tLC bs wi g tt te):=by
 intro pins s σ H Q I h
 rw[eval_ListComp]
 refine wpAny_comprehension_free (use:=none) rfl hs B.clos B.kind B.names (thn (hi pins s σ H _ I h) fun v s1 h1=>thn h1 fun itv s2 h2=>?_)
 obtain⟨it,fp,tn,J,H2,rfl,I2,T,st2,f2,W,⟨m0,w0⟩,turn⟩:=h2
 refine wpAny_newObj_type (Zco fun h₁ hns₁ hkp₁ hcs₁=>?_)
 dsimp only at hns₁ hkp₁ hcs₁⊢
 generalize hG:s2.heap.push {cls:= .type "list",dict:=none,data:= .seq ([]:List Value).toArray}=G at hns₁ hkp₁ hcs₁⊢
 have hC:G.objs.size=s2.heap.objs.size+1:=by rw[<-hG,Heap.size_push]
 have hDC:s2.heap.objs.size≠G.objs.size:=by rw[hC];exact Nat.ne_of_lt (Nat.lt_succ_self _)
 have hCle:s2.heap.objs.size<=G.objs.size:=by rw[hC];exact Nat.le_succ _
 have old:∀b o,s2.heap.get? b=some o->h₁.get? b=some o:=fun b o e=>hkp₁ b o (hG▸Heap.get?_push_of_some _ e)
 have hacc:h₁.get? s2.heap.objs.size=some {cls:= .type "list",data:= .seq ([]:List Value).toArray 0}:=hkp₁ _ _ (hG▸Heap.get?_push_size _ rfl)
 have stat:∀{D:Addr}{o:Obj}{H':Hp},s2.heap.objs.size<=D->(∀b∈fp,H' b=none)->∀b∈fp,FpOk (Yd X scope cl G.objs.size N fp s2 H2) [(D,o)] H' b:=fun{D o H'} hD hn b hb=>by
  obtain⟨ob,eb,_⟩:=T.obj _ _ st2 b hb
  obtain⟨_,f1,f3,f4,f5,_⟩:=f2 b hb
  have ok:=B.ok I2 f2 (T.obj _ _ st2) (C:=G.objs.size) hCle hcs₁.apart
  refine⟨hn b hb,(ok.exf b hb).1,ok.exfs b hb,.inl hb,(ok.exf b hb).2,fun p hp=>?_⟩
  have e:p=(D,o):=by simpa[Yd]using hp
  subst e
  exact Nat.ne_of_gt (Nat.lt_of_lt_of_le (Heap.lt_size eb) hD)
 have loop:∀s₃:Shared,s₃={s2 with heap:=h₁}->
   codeAny (model X.prog X.w) X.A (.compLoop (.ListComp elt [⟨tg,iter,ifs,0⟩] scope pos) 0 (.ref it) (.ref s2.heap.objs.size) (compEnvC scope (cellsFrom (G.objs.size+1) scope.names cl) G.objs.size X.env))
    (compPost (model X.prog X.w) X.A X.xe none (EP X pins σ Q) (.ref s2.heap.objs.size) G.objs.size) s₃:=by
  rintro s₃ rfl
  refine Yo (fun n s'=>∃i ys its k σ' H',Inv (Yd X scope cl G.objs.size N fp s2 H2) [(s2.heap.objs.size,{cls:= .type "list",data:= .seq (List.toArray its) k})] σ' H' s'/\Vals ys its/\tn i s'.heap/\(∀b∈fp,H' b=none)/\W i n ys σ' H') ?_ m0
   ⟨0,[],[],0,bst bs σ,H2,B.inv I2 f2 (T.obj _ _ st2) hCle old hcs₁ hns₁ hacc (Nat.le_refl _) hDC (fun v z=>nomatch z),.nil,T.keep _ _ _ st2 fun b _ o e=>old b o e,fun b hb=>(f2 b hb).1,w0⟩
  rintro n s3 ⟨i,ys,its,k,σ3,H3,I3,rv,st3,fr3,w3⟩
  have pD:=I3.pin _ (List.mem_append_right _ (.head _))
  rcases turn i n ys σ3 H3 w3 with⟨stop,hz,qn⟩|⟨go,hz,NN,hNN,step⟩
  ·refine thn (T.done (Yd X scope cl G.objs.size N fp s2 H2) rfl rfl rfl hc i _ s3 σ3 H3 (fun _ _=>False) I3 (stat (Nat.le_refl _) fr3) st3 stop) fun r s4⟨hr,I4⟩=>?_
   subst hr
   have pD4:=I4.pin _ (List.mem_append_right _ (.head _))
   obtain⟨m4,hn4,_⟩:=I4.loc
   refine⟨m4,hn4,fun h5 sb5=>?_⟩
   have hD5:h5.get? s2.heap.objs.size=some {cls:= .type "list",data:= .seq (List.toArray its) k}:=sb5.extBut _ _ hDC pD4.1
   have k5:∀b o,b≠G.objs.size->s4.heap.get? b=some o->h5.get? b=some o:=fun b o hb e=>sb5.extBut b o hb e
   have hC4:H3 G.objs.size=none:=I4.free
   have hok4:HOk X.prog X.w H3 s4.heap:=I4.hok
   have hok5:HOk X.prog X.w (upd H3 s2.heap.objs.size (.lst ys)) h5:=fun b u e=>by
    by_cases hb:b=s2.heap.objs.size
    ·subst hb
     rw[Zf]at e
     cases e
     exact⟨hz,its,k,rv,hD5⟩
    ·rw[Zg hb]at e
     have nC:∀c u',H3 c=some u'->c≠G.objs.size:=fun c u' q z=>by rw[z,hC4]at q;cases q
     have nD:∀c u',H3 c=some u'->c≠s2.heap.objs.size:=fun c u' q z=>by rw[z,pD4.2.1]at q;cases q
     refine(hok4 b u e).stay (fun c v hc' q=>k5 c v ?_ q) (fun c q=>by rw[Zg (nD c _ q)];exact q) fun c xs q=>by rw[Zg (nD c _ q)];exact q
     rcases hc' with z|z
     ·rw[z];exact nC b u e
     ·exact nC c _ z
   have un4:Un (frs X.stack) fp H2 H3 s2.heap s4.heap:=I4.base
   have neC:∀b o,s2.heap.get? b=some o->b≠G.objs.size:=fun b o e=>Nat.ne_of_lt (Nat.lt_of_lt_of_le (Heap.lt_size e) hCle)
   have neD:∀b o,s2.heap.get? b=some o->b≠s2.heap.objs.size:=fun b o e=>Nat.ne_of_lt (Heap.lt_size e)
   have un5:Un (frs X.stack) fp H2 (upd H3 s2.heap.objs.size (.lst ys)) s2.heap h5:={
    keep:=fun b o e n hb hx=>k5 b o (neC b o e) (un4.keep b o e n hb hx)
    slot:=fun b o e n hb hx=>let⟨sl,q⟩:=un4.slot b o e n hb hx;⟨sl,k5 b _ (neC b o e) q⟩
    free:=fun b o e n hx=>by rw[Zg (neD b o e)];exact un4.free b o e n hx
    there:=fun b o e hx=>let⟨o',q⟩:=un4.there b o e hx;⟨o',k5 b _ (neC b o e) q⟩
    tups:=fun b xs e=>by rw[Zg (Zz e (I2.hok.fresh (Nat.le_refl _)))];exact un4.tups b xs e
    frzs:=fun b o u e=>by rw[Zg (Zz e (I2.hok.fresh (Nat.le_refl _)))];exact un4.frzs b o u e
    tbls:=fun b ps e=>by rw[Zg (Zz e (I2.hok.fresh (Nat.le_refl _)))];exact un4.tbls b ps e}
   refine⟨.ref s2.heap.objs.size,_,I2.call' (s':={s4 with heap:=h5}) ((show s4.os=s2.os from I4.os)) un5 hok5 I4.bare (fun b hb=>?_),rfl,qn _ pD4.2.1⟩
   obtain⟨_,f1,f3,f4,f5,f6⟩:=f2 b hb
   exact⟨f4,f1,f5,f6⟩
  ·refine thn (T.item (Yd X scope cl G.objs.size N fp s2 H2) rfl rfl rfl hc i _ s3 σ3 H3 (fun _ _=>False) I3 (stat (Nat.le_refl _) fr3) st3 go) fun r s4⟨u,hr,h4⟩=>?_
   subst hr
   refine thn h4 fun _ s5⟨x,H5,I5,r5,y5,st5,fr5⟩=>?_
   have I5':=I5.pinned (stat (Nat.le_refl _) fr5) (T.obj _ _ st5)
   refine thn (hg _ _ _ _ _ s5 σ3 H5 x u _ I5' r5 (step x H5 y5)) fun _ s6⟨σ6,H6,I6,q6⟩=>?_
   refine thn (ht _ _ _ _ _ s6 σ6 H6 _ I6 q6) fun ok s7⟨H7,I7,q7⟩=>?_
   have back:∀{σ8:St}{H8:Hp}{s8:Shared}{pl:List (Addr×Obj)},Inv (Yd X scope cl G.objs.size N fp s2 H2) (pl++Yn fp s5.heap) σ8 H8 s8->tn (i+1) s8.heap/\∀b∈fp,H8 b=none:=fun{σ8 H8 s8 pl} I8=>
    ⟨T.keep _ _ _ st5 fun b hb o e=>(I8.pin (b,o) (List.mem_append_right _ (List.mem_append_right _ (Yl hb e)))).1,fun b hb=>by
     obtain⟨o,e,d⟩:=T.obj _ _ st5 b hb
     exact(I8.pin (b,o) (List.mem_append_right _ (List.mem_append_right _ (Yl hb e)))).2.1⟩
   cases ok with
   |false=>
    rw[if_neg Bool.false_ne_true]at q7⊢
    obtain⟨m',hm,w7⟩:=hNN _ _ _ q7
    exact⟨m',hm,i+1,ys,its,k,σ6,H7,I7.unpinned,rv,(back I7).1,(back I7).2,w7⟩
   |true=>
    rw[if_pos rfl]at q7⊢
    refine thn (he _ _ _ _ _ s7 σ6 H7 _ I7 q7) fun y s8⟨v8,H8,I8,r8,q8⟩=>?_
    obtain⟨m',hm,w8⟩:=hNN _ _ _ q8
    have pD8:=I8.pin _ (List.mem_append_right _ (List.mem_append_left _ (.head _)))
    have hl:=rv.length
    refine wpAny_list_append_plain ⟨k,pD8.1⟩ (fun h9 pl9 sb9=>?_) (by rw[List.size_toArray];omega)
    obtain⟨k9,e9⟩:=pl9
    have e9':h9.get? s2.heap.objs.size=some {cls:= .type "list",data:= .seq (List.toArray (its++[y])) k9}:=by rw[e9];simp
    have I8':Inv (Yd X scope cl G.objs.size N fp s2 H2) (Yn fp s5.heap) σ6 H8 s8:=I8.pins_of fun p hp=>I8.pin p (List.mem_append_right _ (List.mem_append_right _ hp))
    have I9:Inv (Yd X scope cl G.objs.size N fp s2 H2) (Yn fp s5.heap) σ6 H8 {s8 with heap:=h9}:=I8'.turned (it:=s2.heap.objs.size) (t':=s8.toks) (fun b o hb e=>sb9.extBut b o hb e) pD8.2.1 pD8.2.2.1 (.inr (Nat.le_refl _))
     (fun x c e z=>by
      obtain⟨vc,oc,hoc,hd⟩:=I8.cell x c e
      rw[z,pD8.1]at hoc
      cases hoc
      cases hd)
     fun p hp z=>by
      have hp':p∈Yn fp s5.heap:=by simpa[Yd]using hp
      obtain⟨q1,q2⟩:=J8 hp'
      obtain⟨ob,eb,_⟩:=T.obj _ _ st2 p.1 q1
      exact Nat.lt_irrefl _ (by have:=Heap.lt_size eb;rw[z]at this;exact this)
    have hk9:∀b∈fp,∀o,s8.heap.get? b=some o->h9.get? b=some o:=fun b hb o e=>sb9.extBut b o (fun z=>by
     obtain⟨ob,eb,_⟩:=T.obj _ _ st2 b hb
     exact Nat.lt_irrefl _ (by have:=Heap.lt_size eb;rw[z]at this;exact this)) e
    refine⟨m',hm,i+1,ys++[v8],its++[y],k9,σ6,H8,I9.pins_of fun p hp=>?_,rv.append (.cons r8 .nil),T.keep _ _ _ (back I8).1 hk9,(back I8).2,w8⟩
    have e:p=(s2.heap.objs.size,{cls:= .type "list",data:= .seq (List.toArray (its++[y])) k9}):=by simpa using hp
    subst e
    exact⟨e9',pD8.2.1,pD8.2.2.1,pD8.2.2.2.1,fun v z=>nomatch z⟩
 exact codeAny_compStart_list (loop _ rfl) (T.self _ 0 _ _ _ (T.keep _ _ _ st2 fun b _ o e=>old b o e) (loop _ rfl))
theorem ZgI{X:Cx}{scope:Scope}{cl:List (Str×Addr)}{N:List Str}{bs:List (Option Nat)}{tg a elt:Expr}{ifs:List Expr}{p pos' pos:Pos}{ta:TA}{g:TG}{tt:TT}{te:TE}(B:BlkC X scope cl N bs)(hc:X.calm=true)
  (hgl:Gl X "range")(hmr:X.mg "range"=none)(ha:PA X [a] ta)(hm:ZaB ta)(hpl:Yw a=true)(hg:∀C fp s H,PG (Yd X scope cl C N fp s H) tg g) (ht:∀C fp s H,PTs (Yd X scope cl C N fp s H) ifs tt) (he:∀C fp s H,PE (Yd X scope cl C N fp s H) elt te)
  (hs:∀x,foldedSetIterable (.Call (.Name "range" p) [a] [] pos') X.env x=pure x:=by intro _;rfl):PE X (.ListComp elt [⟨tg,.Call (.Name "range" p) [a] [] pos',ifs,0⟩] scope pos) (ZhR bs ta g tt te):=by
 intro pins s σ H Q I h
 refine @Zio X scope cl N bs tg _ elt ifs pos (ZcR ta) g tt te B hc (@ZM X tg a ta p pos' hgl hmr ha (Yt hpl)) hg ht he hs pins s σ H Q I ?_
 refine hm σ H _ _ (fun vs H1 h=>?_) h
 obtain⟨n,e,hz,Pv,p0,pl,ps,pd⟩:=h
 refine⟨(n:Int),e,by omega,by omega,?_⟩
 rw[Int.toNat_natCast]
 exact Zbk (Q:=Q) Pv (Yq hz) p0 pl ps fun ys σ H hp p hpn=>pd ys σ H hp p _ (ZI hpn) Zf
structure FunC(K:PySem.W.Frag)(x qual:Str)(st:Stmt)(f:Addr)(fd:FuncData)(c:Addr):Prop where
 ex:∃(oc:Value)(od:Option Addr)(kV doc pm:Value)(an:Option Addr)(ct:Value)(osl:Array (Option Value)),
  fd=PySem.W.fnOf x qual (Zv st) (Zj st) (Zd st) .none kV doc pm an (.ref c) ct/\K.lookup f=some ⟨oc,od,.func fd,osl⟩/\PySem.W.codeIn K (.ref c) qual=true
section
variable{P:Program}{w:World}{K:PySem.W.Frag}{mg:Str->Option Value}{base:Heap}
theorem FunC.ok{x qual:Str}{st:Stmt}{f c:Addr}{fd:FuncData}{N ps:List Str}{k:Nat}{sp:Sp}(F:FunC K x qual st f fd c)(S:Zx N ps (Zd st))(len:∀vs H Q E,sp vs H Q E->vs.length=ps.length)
  (hbody:∀(A:Around)(outer:List Env)(s:Shared)(H:Hp)(vs:List V)(Q:VK)(E:XK),Room k (A.deeper (envOfC qual (Zd st) s.heap.objs.size f (.ref c)))->sp vs H Q E->
   ∃t,PSs (ZF CX0 P w K mg base N qual (Zd st) f (.ref c) A outer s H E).nox (Zj st) t/\t {nx:=fun _ H'=>Q .non H',rt:=Q} (start N vs) H):FnOk P w K mg base CX0 (k+1) f fd ps sp:=by
 obtain⟨oc,od,kV,doc,pm,an,ct,osl,rfl,lk,hcd⟩:=F.ex
 refine ZcU lk hcd S len fun A outer s H vs Q E hr hsp=>?_
 obtain⟨t,h,q⟩:=hbody A outer s H vs Q E hr hsp
 exact⟨t,h.nox,q⟩
end
theorem Gr.none{P:Addr}{pos:Pos}{qual:Str}{H H':Hp}(g:Gr P pos qual H H'){d:Addr}(h:H' d=Option.none):H d=Option.none:=by
 cases q:H d with
 |none=>rfl
 |some o=>
  by_cases hd:d=P
  ·subst hd
   rcases g.tab with t|⟨c',t,_⟩
   ·rw[h]at t;cases t
   ·rw[h]at t;cases t
  ·rw[g.keep d o q hd]at h;cases h
theorem Gr.new{P:Addr}{pos:Pos}{qual:Str}{H H':Hp}(g:Gr P pos qual H H'){d:Addr}{o:HO}(h:H' d=Option.none):Gr P pos qual H (upd H' d o):=g.same (Zs h)
theorem Gr.lst{P:Addr}{pos:Pos}{qual:Str}{H H':Hp}(g:Gr P pos qual H H'){d:Addr}{xs ys:List V}(h:H' d=some (.lst xs))(hn:H d=Option.none):Gr P pos qual H (upd H' d (.lst ys)):=by
 refine⟨fun b o e n=>by rw[Zg (Zz e hn)];exact g.keep b o e n,?_⟩
 rcases g.tab with t|⟨c',t,u⟩
 ·exact .inl (by rw[Zg (Zbg t h fun z=>nomatch z)];exact t)
 ·exact .inr ⟨c',by rw[Zg (Zbg t h fun z=>nomatch z)];exact t,by rw[Zg (Zbg u h fun z=>nomatch z)];exact u⟩
def Tk(H H':Hp):Prop:=∀q xs,H q=some (.tup xs)->H' q=some (.tup xs)
theorem Tk.trans{H H1 H2:Hp}(a:Tk H H1)(b:Tk H1 H2):Tk H H2:=fun q xs e=>b q xs (a q xs e)
theorem Same.tk{H H':Hp}(s:Same H H'):Tk H H':=fun q xs e=>s q _ e
theorem Gr.tk{P:Addr}{pos:Pos}{qual:Str}{H H':Hp}(g:Gr P pos qual H H')(t:TabI P pos qual H):Tk H H':=fun q xs e=>g.keep q _ e fun z=>by
 subst z
 rcases t with t|⟨c',t,_⟩
 ·rw[e]at t;cases t
 ·rw[e]at t;cases t
theorem ZhP{H:Hp}{d:Addr}{xs ys:List V}(h:H d=some (.lst xs)):Tk H (upd H d (.lst ys)):=fun q zs e=>by rw[Zg (Zbg e h fun z=>nomatch z)];exact e
def ZhC:Stmt->Expr
 | .Assign _ (.Call _ _ [⟨_,e,_⟩] _) _=>e
 |_=> .Constant .none 0 ⟨0,0,0,0⟩
def JZ:Expr->Scope
 | .Lambda _ _ s _=>s
 |_=>{kind:= .function,names:=[],isGenerator:=false,isCoroutine:=false}
def Zeh:Expr->Arguments
 | .Lambda a _ _ _=>a
 |_=>{posonlyargs:=[],args:=[],vararg:=none,kwonlyargs:=[],kw_defaults:=[],kwarg:=none,defaults:=[]}
def ZgB(K:PySem.W.Frag):V->List V->Hp->VK->Prop:=fun x vs H Q=>∃l,∃ns:List Int,∃k:Int,x= .ref l/\vs=[.int k]/\SqL K H l (ns.map V.int)/\k∈ns/\∀j:Nat,ns[j]?=some k->(∀i:Nat,i<j->ns[i]?≠some k)->Q (.int (j:Int)) H
theorem Zaw{X:Cx}{K:PySem.W.Frag}(hK:X.K=K):MtM X "list.index" (ZgB K):=by
 subst hK
 intro pins s σ H x vs v us Q I rx rv h
 obtain⟨l,ns,k,rfl,rfl,hH,hk,q⟩:=h
 cases rx
 obtain⟨u,rfl,ru⟩:=rv.one
 obtain⟨t,rfl⟩:=(show∃t,u=Value.int k t from ru)
 obtain⟨its,r,pl,hz'⟩:=I.list hH
 have hi:=Zel r
 have hvl:=r.length
 rw[List.length_map]at hvl
 obtain⟨j,h1,h2⟩:=ZcV hk
 obtain⟨hj,hje⟩:=List.getElem?_eq_some_iff.mp h1
 obtain⟨⟨cls,dd,data,sl⟩,ho,hc,n,hd⟩:=pl.isList
 simp only at hc hd
 subst hc hd
 rw[sizeLine_eq,List.length_map]at hz'
 refine call_meets PySem.F.slot_list_index ⟨_,ho,rfl⟩ PySem.F.entry_list_index (PySem.F.args_list_index_2 _ _) (PySem.SeqAt.list_indexAt l its.toArray n dd sl (.int k t) (isInt k) j (by rw[List.size_toArray];omega) (by omega) ?_ ?_) ⟨ho,fun y hy=>(eq_isInt k t hi y (by simpa using hy)).at _ _,⟨.int (j:Int),H,I.tok _,⟨_,rfl⟩,q j h1 h2⟩⟩
 ·rw[List.getElem_toArray,isInt_at k hi j (by omega) hj,hje]
  exact beq_self_eq_true _
 ·intro i hm hij
  rw[List.size_toArray]at hm
  rw[List.getElem_toArray,isInt_at k hi i hm (by omega)]
  refine Bool.eq_false_iff.mpr fun z=>h2 i hij ?_
  rw[List.getElem?_eq_getElem (by omega),eq_of_beq z]
end L2
namespace My
def InP(tl:List (Option Nat))(u v k:Nat):Prop:=tl[k]?=some (some u)\/tl[k]?=some (some v)
inductive RP(es:List (Nat×Nat))(tl:List (Option Nat))(u v p:Nat):Nat->Prop
 |start:RP es tl u v p p
 |step {x y k:Nat}:RP es tl u v p x->k<es.length->InP tl u v k->At (es.getD k (0,0)) x->At (es.getD k (0,0)) y->RP es tl u v p y
def RT(es:List (Nat×Nat))(tl:List (Option Nat))(u v p k:Nat):Prop:=k<es.length/\InP tl u v k/\∃x,RP es tl u v p x/\At (es.getD k (0,0)) x
structure Walk(es:List (Nat×Nat))(tl:List (Option Nat))(u v p:Nat)(F:Nat->Prop)(V W:Nat->Prop):Prop where
 rt:∀k,F k->RT es tl u v p k
 rw:∀x,W x->RP es tl u v p x
 cl:∀x,V x->∀k,k<es.length->InP tl u v k->At (es.getD k (0,0)) x->F k
 en:∀k,F k->∀x,At (es.getD k (0,0)) x->V x\/W x
 st:V p\/W p
theorem Walk.done{es:List (Nat×Nat)}{tl:List (Option Nat)}{u v p:Nat}{F V W:Nat->Prop}(h:Walk es tl u v p F V W)(hW:∀x,¬W x):∀k,F k↔RT es tl u v p k:=by
 have hV:∀x,RP es tl u v p x->V x:=fun x hx=>by
  induction hx with
  |start=>exact h.st.resolve_right (hW _)
  |step _ h1 h2 h3 h4 ih=>exact(h.en _ (h.cl _ ih _ h1 h2 h3) _ h4).resolve_right (hW _)
 exact fun k=>⟨h.rt k,fun⟨a,b,x,c,d⟩=>h.cl x (hV x c) k a b d⟩
def draw(ns:List Int)(k:Int):Int:=((ns.getD k.toNat 0).natAbs:Int)
theorem Zho(ns:List Int)(k:Int):0<=draw ns k:=Int.natCast_nonneg _
theorem Zg5{a d p:Int}(h0:0<=a)(h1:a<p)(h2:1<=d)(h3:d<p):(a+d)%p≠a:=by
 by_cases h:a+d<p
 ·rw[Int.emod_eq_of_lt (by omega) h];omega
 ·have e:(a+d)%p=a+d-p:=by
   have e1:(a+d-p)%p=(a+d)%p:=by rw[Int.sub_emod_right]
   rw[<-e1]
   exact Int.emod_eq_of_lt (by omega) (by omega)
  rw[e];omega
theorem next_ne{n p:Int}(h:2<=p):(n+1)%p≠n%p:=by
 have h1:=Zg5 (a:=n%p) (d:=1) (p:=p) (Int.emod_nonneg _ (by omega)) (Int.emod_lt_of_pos _ (by omega)) (by omega) (by omega)
 rw[Int.emod_add_emod]at h1
 exact h1
theorem Ya{n p:Int}(h:0<p):0<=n%p:=Int.emod_nonneg _ (by omega)
theorem Yk{n p:Int}(h:0<p):n%p<p:=Int.emod_lt_of_pos _ h
theorem Zd1{n:Nat}{ns:List Int}(h:ns.Perm ((List.range n).map fun i:Nat=>(i:Int))):ns.length=n/\(∀x∈ns,0<=x/\x<n)/\ns.Nodup:=by
 refine⟨by rw[h.length_eq];simp,fun x hx=>?_,?_⟩
 ·have:=h.mem_iff.mp hx
  obtain⟨i,hi,rfl⟩:=List.mem_map.mp this
  have:=List.mem_range.mp hi
  omega
 ·refine h.nodup_iff.mpr ?_
  rw[List.nodup_iff_pairwise_ne,List.pairwise_map]
  refine List.Pairwise.imp (fun{a b} q z=>q (Int.ofNat_inj.mp z)) (List.nodup_iff_pairwise_ne.mp (List.nodup_range (n:=n)))
theorem Zd6{ns:List Int}(h:ns.Nodup){i j:Nat}(hi:i<ns.length)(hj:j<ns.length)(hij:i≠j):ns[i]≠ns[j]:=by
 intro e
 exact hij ((List.getElem_inj h).mp e)
end My
namespace My
open PySem L2
def top(i:Nat):Stmt:=PySem.Challenge.pw_tintties_k64_whole_fewest.main.body.getD i (.Pass ⟨0,0,0,0⟩)
def Dr(ns:List Int):Prop:=ns.length=90/\∀x∈ns,0<=x
section
variable{P:Program}{w:World}{K:PySem.W.Frag}{mg:Str->Option Value}{base:Heap}{Pt c:Addr}
abbrev sMx:Stmt:=top 24
def spMx:Sp:=fun vs H Q _=>∃cc k:Int,vs=[.int cc,.int k]/\0<=k/\k<=1000/\∀v:Int,0<=v->Q (.int v) H
theorem scMx:Zx ["_law_cell","_law_k","_law_first","_law_second"] ["_law_cell","_law_k"] (Zd sMx):=⟨rfl,rfl,rfl,by decide+kernel,rfl,by decide+kernel,by decide+kernel⟩
theorem Zj6{f:Addr}{fd:FuncData}(F:Fun K "_law_mixed" "_law_mixed" sMx f fd)(T:Bi mg):FnOk P w K mg base CX0 1 f fd ["_law_cell","_law_k"] spMx:=by
 refine F.ok scMx (fun vs H Q E h=>?_) (fun cdv A outer s H vs Q E hr h=>?_)
 ·obtain⟨cc,k,rfl,_⟩:=h
  rfl
 ·obtain⟨cc,k,rfl,k0,k1,q⟩:=h
  refine⟨_,Zb (Zm (i:=2) scMx.nd rfl (Or.inl rfl) (Zq ZC (Zq ZE (Zq ZE (Zq JL (Zq ZC (pv 0) Zc) (Zq ZE Zc (Zq JL Zc (pv 1)))) (Zq JL (Zq JL (pv 1) (pv 1)) Zc)) Zc) Zc))
   (Zb (Zm (i:=3) scMx.nd rfl (Or.inl rfl) (Zq ZC (Zq ZE (Zq JL (pv 2) (pv 2)) (Zq JL (pv 1) Zc)) Zc))
   (Zh (Z2 (Zq ZC (Zq JL (pv 3) (pv 3)) Zc)))),?_⟩
  have a1:=Ya (n:=cc) (p:=2147483629) (by decide)
  have a2:=Yk (n:=cc) (p:=2147483629) (by decide)
  refine⟨_,rfl,_,_,rfl,rfl,(by show(0:Int)<2147483629;decide),_,rfl,_,_,rfl,rfl,.inl ⟨by decide,by decide⟩,_,_,rfl,rfl,_,_,rfl,rfl,.inl ⟨by omega,by omega⟩,_,rfl,_,rfl,_,_,rfl,rfl,.inl ⟨by omega,by omega⟩,_,_,rfl,rfl,.inr ⟨by decide,by decide⟩,_,_,rfl,rfl,_,_,rfl,rfl,_,_,rfl,rfl,(by show(0:Int)<2147483647;decide),?_⟩
  generalize hX:cc%2147483629*(48271+2*k)+k*k*7919+104729=X
  have b1:=Ya (n:=X) (p:=2147483647) (by decide)
  have b2:=Yk (n:=X) (p:=2147483647) (by decide)
  refine⟨_,rfl,_,rfl,_,_,rfl,rfl,.inl ⟨by omega,by omega⟩,_,rfl,_,_,rfl,rfl,.inl ⟨by omega,by omega⟩,_,_,rfl,rfl,_,_,rfl,rfl,(by show(0:Int)<2147483587;decide),?_⟩
  generalize hY:X%2147483647*(X%2147483647)+k*40692=Y
  have c1:=Ya (n:=Y) (p:=2147483587) (by decide)
  have c2:=Yk (n:=Y) (p:=2147483587) (by decide)
  refine⟨_,rfl,_,rfl,_,_,rfl,rfl,.inl ⟨by omega,by omega⟩,_,_,rfl,rfl,(by show(0:Int)<2147483579;decide),?_⟩
  exact q _ (Ya (by decide))
end
theorem set_map(cs:List Int)(k:Nat)(v:Int):(cs.map V.int).set k (.int v)=(cs.set k v).map V.int:=by rw[List.map_set]
theorem get_map{cs:List Int}{k:Nat}(h:k<cs.length):(cs.map V.int)[k]?=some (.int cs[k]):=by rw[List.getElem?_map,List.getElem?_eq_getElem h];rfl
section
variable{P:Program}{w:World}{K:PySem.W.Frag}{mg:Str->Option Value}{base:Heap}{Pt c:Addr}
abbrev sDs:Stmt:=top 25
abbrev nDs:List Str:=["_law_script","_law_many","_law_cells","_law_by_digits","_law_found","_law_k","_law_at"]
def ZhZ(K:PySem.W.Frag):Sp:=fun vs H Q _=>∃(a:Addr)(ns:List Int),vs=[.ref a,.int 90]/\SqL K H a (ns.map V.int)/\ns.length<=63/\∀H' d ds,Same H H'->H' d=some (.lst (ds.map V.int))->Dr ds->Q (.ref d) H'
theorem scDs:Zx nDs ["_law_script","_law_many"] (Zd sDs):=⟨rfl,rfl,rfl,by decide+kernel,rfl,by decide+kernel,by decide+kernel⟩
theorem ZjF{f:Addr}{fd:FuncData}(F:Fun K "_law_draws" "_law_draws" sDs f fd)(T:Bi mg)(FM:FnE P w K mg base "_law_mixed" ["_law_cell","_law_k"] 1 spMx):FnOk P w K mg base CX0 2 f fd ["_law_script","_law_many"] (ZhZ K):=by
 refine F.ok scDs (fun vs H Q E h=>?_) (fun cdv A outer s H vs Q E hr h=>?_)
 ·obtain⟨a,ns,rfl,_⟩:=h
  rfl
 ·obtain⟨a,ns,rfl,hS,hl,q⟩:=h
  obtain⟨tR,hR,rest⟩:∃t,PSs (ZF CX0 P w K mg base nDs "_law_draws" (Zd sDs) f cdv A outer s H E).nox ((Zj sDs).drop 2) t/\∀(H1:Hp)(C:Addr)(cs:List Int),Same H H1->H C=none->H1 C=some (.lst (cs.map V.int))->0<cs.length->cs.length<=63->
    t {nx:=fun _ H'=>Q .non H',rt:=Q} [some (.ref a),some (.int 90),some (.ref C),none,none,none,none] H1:=by
   refine⟨_,Zb (Zm (i:=3) scDs.nd rfl (Or.inl rfl) (Ym ZR (Zq ZC (Zo ZV (pv 2) Zc (fun _ _=>rfl)) Zc) Zc (Zp _)))
    (Zb (JH (Zq YG (Zo ZV (pv 2) Zc (fun _ _=>rfl)) Zc) (Zba (pv 2) Zc Zas))
    (Zb (Zm (i:=4) scDs.nd rfl (Or.inl rfl) (Jc Za))
    (Zb (ZZ PassesOwn.never rfl (ZM rfl T.range (Ze (pv 1) Za)) (Zt (i:=5) scDs.nd rfl (Or.inl rfl))
     (Zb (Zm (i:=6) scDs.nd rfl (Or.inl rfl) (Zq ZC (pv 5) (Zn Zk rfl T.len Ye (Ze (pv 2) Za))))
     (Zh (Z3 (ZS (pv 3))
      (Zb (YD (Jo PySem.F.plainAttrs_list PySem.F.slot_list_append PySem.F.type_list_append Yu (pv 4) (Ze (Zq ZC (Zo ZV (pv 2) (pv 6) (fun _ _=>rfl)) Zc) Za)))
      (Zh (JH (Zq ZfD (Zo ZV (pv 2) (pv 6) (fun _ _=>rfl)) Zc) (Zba (pv 2) (pv 6) Zas))))
      (Zh (YD (Jo PySem.F.plainAttrs_list PySem.F.slot_list_append PySem.F.type_list_append Yu (pv 4) (Ze (Z0 FM hr (Ze (Zo ZV (pv 2) (pv 6) (fun _ _=>rfl)) (Ze (pv 5) Za))) Za))))))))
    (Zh (Z2 (pv 4)))))),fun H1 C cs s1 hC0 hC hpos h63=>?_⟩
   have g0:=ZH (get_map hpos)
   refine⟨_,rfl,C,_,_,_,rfl,rfl,SqL.of hC,g0,_,_,rfl,rfl,(by show(0:Int)<2;decide),rfl,?_⟩
   generalize hb:decide (V.int (cs[0]%2)=V.int 0)=b
   refine⟨_,rfl,C,_,_,_,rfl,rfl,SqL.of hC,g0,_,_,rfl,rfl,⟨by decide,by decide⟩,_,rfl,C,_,0,rfl,rfl,hC,by rw[List.length_map];exact hpos,?_⟩
   rw[set_map]
   refine⟨(by show 0<=sizeLine;exact Nat.zero_le _),fun D hD=>?_⟩
   have hCD:C≠D:=fun z=>by subst z;rw[Zf]at hD;cases hD
   have hD0:H D=none:=by
    cases z:H D with
    |none=>rfl
    |some o=>rw[Zg (Ne.symm hCD),s1 D o z]at hD;cases hD
   have sC:∀H' o,Same H H'->Same H (upd H' C o):=fun H' o s' c' o' e'=>by rw[Zg (Zz e' hC0)];exact s' c' o' e'
   have sD:∀H' o,Same H H'->Same H (upd H' D o):=fun H' o s' c' o' e'=>by rw[Zg (Zz e' hD0)];exact s' c' o' e'
   refine⟨_,rfl,90,rfl,by decide,by decide,ZT (lo:=0) (n:=(90:Int).toNat) (fun i σ H'=>∃cs ds v5 v6,σ=[some (.ref a),some (.int 90),some (.ref C),some (.bl b),some (.ref D),v5,v6]/\H' C=some (.lst (List.map V.int cs))/\0<cs.length/\H' D=some (.lst (List.map V.int ds))/\ds.length=i/\(∀x∈ds,0<=x)/\Same H H')
    ⟨cs.set 0 (cs[0]/2),[],_,_,rfl,by rw[Zg hCD,Zf],by rw[List.length_set];exact hpos,Zf,rfl,(fun x hx=>by cases hx),sD _ _ (sC _ _ s1)⟩ (fun i σ H' hi⟨cs,ds,v5,v6,e,hC',hp',hD',hl',hnn,sH⟩=>?_) (fun σ H'⟨cs,ds,v5,v6,e,hC',hp',hD',hl',hnn,sH⟩=>?_)⟩
   ·subst e
    have hi':i<90:=hi
    have m1:=Ya (n:=0+(i:Int)) (p:=(cs.length:Int)) (by omega)
    have m2:=Yk (n:=0+(i:Int)) (p:=(cs.length:Int)) (by omega)
    obtain⟨k,hk⟩:∃k:Nat,(0+(i:Int))%(cs.length:Int)=(k:Int):=⟨((0+(i:Int))%(cs.length:Int)).toNat,by omega⟩
    have hkl:k<cs.length:=by omega
    refine⟨_,rfl,_,rfl,C,_,rfl,.inl (SqL.of hC'),_,_,rfl,rfl,(by show(0:Int)<((List.map V.int cs).length:Int);rw[List.length_map];omega),?_⟩
    have hk2:(0+(i:Int))%((List.map V.int cs).length:Int)=(k:Int):=by rw[List.length_map];exact hk
    simp only[hk2]
    have gk:=ZH (get_map hkl)
    have szD:(List.map V.int ds).length<sizeLine:=by rw[List.length_map,sizeLine_eq];omega
    refine⟨_,rfl,_,rfl,ZQ (fun _=>?_) (fun _=>?_)⟩
    ·refine⟨_,rfl,.inl ⟨rfl,_,SqL.of hD'⟩,_,rfl,_,rfl,C,_,_,_,rfl,rfl,SqL.of hC',gk,_,_,rfl,rfl,(by show(0:Int)<2147483579;decide),D,_,_,rfl,rfl,hD',szD,?_⟩
     have hC2:(upd H' D (.lst (List.map V.int ds++[.int (cs[k]%2147483579)]))) C=some (.lst (List.map V.int cs)):=by rw[Zg hCD];exact hC'
     refine⟨_,rfl,_,rfl,C,_,_,_,rfl,rfl,SqL.of hC2,gk,_,_,rfl,rfl,⟨by decide,by decide⟩,_,rfl,_,rfl,C,_,k,rfl,rfl,hC2,by rw[List.length_map];exact hkl,?_⟩
     rw[set_map]
     refine⟨cs.set k (cs[k]/2147483579),ds++[cs[k]%2147483579],_,_,rfl,Zf,by rw[List.length_set];exact hp',?_,by rw[List.length_append,hl'];rfl,fun x hx=>?_,sC _ _ (sD _ _ sH)⟩
     ·rw[Zg (Ne.symm hCD),Zf,List.map_append]
      rfl
     ·rcases List.mem_append.mp hx with z|z
      ·exact hnn x z
      ·rw[List.mem_singleton.mp z];exact Ya (by decide)
    ·refine⟨_,rfl,.inl ⟨rfl,_,SqL.of hD'⟩,_,rfl,_,rfl,C,_,_,_,rfl,rfl,SqL.of hC',gk,_,rfl,cs[k],0+(i:Int),rfl,by omega,by omega,fun v hv=>?_⟩
     refine⟨D,_,_,rfl,rfl,hD',szD,cs,ds++[v],_,_,rfl,by rw[Zg hCD];exact hC',hp',?_,by rw[List.length_append,hl'];rfl,fun x hx=>?_,sD _ _ sH⟩
     ·rw[Zf,List.map_append]
      rfl
     ·rcases List.mem_append.mp hx with z|z
      ·exact hnn x z
      ·rw[List.mem_singleton.mp z];exact hv
   ·subst e
    exact⟨_,rfl,q H' D ds sH hD' ⟨hl',hnn⟩⟩
  refine⟨_,Zb (Zm (i:=2) scDs.nd rfl (Or.inl rfl) (Z9 Zcy rfl T.list ZhG (Ze (pv 0) Za)))
   (Zb (Z3 (Zi ZR (Zn Zk rfl T.len Ye (Ze (pv 2) Za)) Zc (Zp _)) (Zh (Zm (i:=2) scDs.nd rfl (Or.inl rfl) (Jc (Ze Zc Za)))) Zr) hR),?_⟩
  refine⟨_,rfl,a,_,rfl,.inl hS,fun C hC=>?_⟩
  refine⟨_,rfl,C,_,rfl,.inl (SqL.of Zf),rfl,_,rfl,?_⟩
  refine ZQ (fun h0=>?_) (fun h0=>?_)
  ·refine⟨(by show 1<=sizeLine;decide),fun C2 hC2=>?_⟩
   have hC20:H C2=none:=by
    cases z:H C2 with
    |none=>rfl
    |some o=>rw[Zs hC C2 o z]at hC2;cases hC2
   exact rest _ C2 [1] (Same.trans (Zs hC) (Zs hC2)) hC20 Zf (by decide) (by decide)
  ·refine rest _ C ns (Zs hC) hC Zf ?_ hl
   rcases Nat.eq_zero_or_pos ns.length with z|z
   ·refine absurd ?_ h0
    rw[List.length_map,z]
    rfl
   ·exact z
end
section
variable{P:Program}{w:World}{K:PySem.W.Frag}{mg:Str->Option Value}{base:Heap}
abbrev ZbF:Stmt:=top 26
def Jn(K:PySem.W.Frag):Sp:=fun vs H Q _=>∃(a:Addr)(ns:List Int)(k:Int),vs=[.ref a,.int k]/\SqL K H a (ns.map V.int)/\Dr ns/\0<=k/\k<=89/\Q (.int (draw ns k)) H
theorem Zib:Zx ["_law_draws_here","_law_k"] ["_law_draws_here","_law_k"] (Zd ZbF):=⟨rfl,rfl,rfl,by decide+kernel,rfl,by decide+kernel,by decide+kernel⟩
theorem ZgL{f:Addr}{fd:FuncData}(F:Fun K "_law_draw" "_law_draw" ZbF f fd)(T:Bi mg):FnOk P w K mg base CX0 1 f fd ["_law_draws_here","_law_k"] (Jn K):=by
 refine F.ok Zib (fun vs H Q E h=>?_) (fun cdv A outer s H vs Q E hr h=>?_)
 ·obtain⟨a,ns,k,rfl,_⟩:=h
  rfl
 ·obtain⟨a,ns,k,rfl,hS,hd,k0,k1,q⟩:=h
  obtain⟨j,rfl⟩:∃j:Nat,k=(j:Int):=⟨k.toNat,by omega⟩
  have hj:j<ns.length:=by rw[hd.1];omega
  refine⟨_,Zh (Z2 (Zo ZV (pv 0) (pv 1) (fun _ _=>rfl))),?_⟩
  refine⟨_,rfl,_,rfl,a,_,_,_,rfl,rfl,hS,ZH (v:= .int ns[j]) (by rw[List.getElem?_map,List.getElem?_eq_getElem hj];rfl),?_⟩
  have e:draw ns (j:Int)=ns[j]:=by
   unfold draw
   rw[Int.toNat_natCast,List.getD_eq_getElem?_getD,List.getElem?_eq_getElem hj]
   have:=hd.2 ns[j] (List.getElem_mem hj)
   show((ns[j].natAbs:Nat):Int)=ns[j]
   omega
  rw[e]at q
  exact q
end
end My
namespace L2
open PySem PySem.Spec PyProof.Rows
theorem Ji{X:Cx}{K:PySem.W.Frag}(hK:X.K=K):IxR X (ZgA K):=by
 subst hK
 exact Zl
theorem Zbd{X:Cx}{K:PySem.W.Frag}(hK:X.K=K):OpR X (compareOp .In) (rIn K false):=by
 subst hK
 exact Y1
end L2
namespace My
open PySem L2
def YU:Expr->Scope
 | .ListComp _ _ s _=>s
 | .Call _ [e] _ _=>YU e
 | .Tuple [_,e] _ _=>YU e
 | .BinOp _ _ e _=>YU e
 | .Compare a _ _ _=>YU a
 |_=>{kind:= .function,names:=[],isGenerator:=false,isCoroutine:=false}
def Ze8:Stmt->Expr
 | .Return (some e) _=>e
 | .Assign _ e _=>e
 |_=> .Constant .none 0 ⟨0,0,0,0⟩
def Jl(i k:Nat):Stmt:=(Zj (top i)).getD k (.Pass ⟨0,0,0,0⟩)
def Zhj:Stmt->List Stmt
 | .For _ _ b _ _=>b
 |_=>[]
theorem JE(k:Nat)(l:List Nat):inV (.int (k:Int)) (nl l)=true↔k∈l:=by
 unfold inV nl
 rw[List.any_map,List.any_eq_true]
 constructor
 ·rintro⟨x,hx,e⟩
  have e':((x:Int)==(k:Int))=true:=e
  have:=eq_of_beq e'
  rw[show k=x by omega]
  exact hx
 ·intro h
  exact⟨k,h,(beq_iff_eq.mpr rfl:((k:Int)==(k:Int))=true)⟩
theorem Zaf(l:List Nat):(nl l).all JG=true:=by
 unfold nl
 rw[List.all_map,List.all_eq_true]
 exact fun x _=>rfl
theorem ZcY(m n:Nat):((m:Int)/(n:Int))=((m/n:Nat):Int):=rfl
theorem ZbN{s:List Nat}(h:3<=s.length):(((nl s).length:Int)-1)/2=(half s:Int)/\0<half s:=by
 rw[Z8]
 unfold half
 omega
def ZjY:Stmt->Scope
 | .Assign _ (.Call _ [.ListComp _ _ s _] _ _) _=>s
 |_=>{kind:= .function,names:=[],isGenerator:=false,isCoroutine:=false}
section
variable{P:Program}{w:World}{K:PySem.W.Frag}{mg:Str->Option Value}{base:Heap}
def spBr:Sp:=fun vs H Q _=>∃(p t:Addr)(n:Nat)(q:Addr)(ts:List V)(es:List (Nat×Nat))(s:List Nat),vs=[.ref p,.ref t]/\NetZ H p n q ts es/\H t=some (.tup (nl s))/\3<=s.length/\s.length<=100/\∀H',Same H H'->Q (.int (Zb3 es s:Int)) H'
abbrev sBr:Stmt:=top 12
abbrev nBr:List Str:=["net","part","inside","at_once"]
abbrev brS:Scope:=ZjY (Jl 12 0)
theorem Zlw:(["ends","part"]:List Str).Nodup:=by decide+kernel
theorem scBr:Zx nBr ["net","part"] (Zd sBr):=⟨rfl,rfl,rfl,by decide+kernel,rfl,by decide+kernel,by decide+kernel⟩
theorem Zk2{f:Addr}{cdv:Value}{A:Around}{outer:List Env}{s:Shared}{H:Hp}{E:XK}:
  Blk (ZF CX0 P w K mg base nBr "bar" (Zd sBr) f cdv A outer s H E).nox brS [("part",s.heap.objs.size+1)] ["ends","part"] [none,some 1]:=by
 refine⟨rfl,rfl,by decide+kernel,by decide+kernel,fun p hp=>?_,fun y hy e=>?_,⟨rfl,rfl,rfl⟩,trivial⟩
 ·rw[List.mem_singleton.mp hp]
  rfl
 ·have hy':y∈[((PySem.Str.ofString ".0":Str),NameKind.local),(PySem.Str.ofString "ends",.local),(PySem.Str.ofString "part",.free)]:=hy
  simp only[List.mem_cons,List.not_mem_nil,or_false]at hy'
  rcases hy' with rfl|rfl|rfl<;>first|rfl|cases e
theorem ZjJ{f:Addr}{fd:FuncData}(F:Fun K "bar" "bar" sBr f fd)(T:Bi mg):FnOk P w K mg base CX0 1 f fd ["net","part"] spBr:=by
 refine F.ok scBr (fun vs H Q E h=>?_) (fun cdv A outer s H vs Q E hr h=>?_)
 ·obtain⟨p,t,n,q,ts,es,s',rfl,_⟩:=h
  rfl
 ·obtain⟨p,t,n,qa,ts,es,st,rfl,N,ht,h3,h100,q⟩:=h
  refine⟨_,Zb (Zm (i:=2) scBr.nd rfl (Or.inl rfl) (Zn Zk rfl T.len Ye (Ze (JJ Zk2 rfl (Zo Zl (pv 0) Zc (fun _ _=>rfl)) (Y6 (ZJ 0) (YB _)) (fun C fp s H=>Zt (i:=0) Zlw rfl (Or.inl rfl))
    (fun C fp s H=>Yv (PW.pt (pw_and (Zi (Zbd (K:=K) rfl) (Zo (Ji (K:=K) rfl) (pv 0) Zc (fun _ _=>rfl)) (pv 1) rfl) (pw_and1 (Zi (Zbd (K:=K) rfl) (Zo (Ji (K:=K) rfl) (pv 0) Zc (fun _ _=>rfl)) (pv 1) rfl))))) (fun C fp s H=>pv 0)) Za)))
   (Zb (Zm (i:=3) scBr.nd rfl (Or.inl rfl) (Zq YG (Zq Jd (Zn Zk rfl T.len Ye (Ze (pv 1) Za)) Zc) Zc))
   (Zh (Z2 (Zq YG (Zq Jd (Zq ZE (pv 2) (pv 3)) Zc) (pv 3))))),?_⟩
  have h200:=N.l200
  have hlen:=N.len
  refine⟨_,rfl,p,_,_,_,rfl,rfl,SqT.of N.e1,rfl,qa,_,rfl,SqT.of N.e2,by omega,fun i ys σ G=>Same H G/\ys.length=JO es st i/\∃v0,σ=[v0,some (.ref t)],⟨Same.refl _,rfl,none,rfl⟩,fun i ys σ G hi⟨sG,e,_⟩=>⟨SqT.of (sG _ _ N.e2),by rw[e];exact Zcu _ _ _⟩,fun i x ys σ G hx⟨sG,e1,v0,e⟩=>?_,fun ys σ G⟨sG,e1,_⟩ l G2 s2 hl=>?_⟩
  ·subst e
   obtain⟨a,rfl,ha⟩:=N.tie i x hx
   have haG:=sG _ _ ha
   have htG:=sG _ _ ht
   have hs:=ZbL es st i
   generalize(es.getD i (0,0)).1=A1 at*
   generalize(es.getD i (0,0)).2=B1 at*
   refine⟨_,rfl,a,_,_,_,rfl,rfl,SqT.of haG,rfl,_,rfl,t,_,rfl,.inr (SqT.of htG),rfl,Zaf _,_,rfl,?_⟩
   refine ZQ (fun z=>?_) (fun z=>?_)
   ·refine⟨_,rfl,a,_,_,_,rfl,rfl,SqT.of haG,rfl,_,rfl,t,_,rfl,.inr (SqT.of htG),rfl,Zaf _,_,rfl,?_⟩
    have m1:A1∈st:=(JE A1 st).mp z
    refine ZQ (fun z2=>?_) (fun z2=>?_)
    ·have m2:B1∈st:=(JE B1 st).mp z2
     refine⟨_,rfl,sG,?_,_,rfl⟩
     rw[hs,if_pos (by rw[decide_eq_true m1,decide_eq_true m2];rfl),List.length_append,e1]
     rfl
    ·refine⟨sG,?_,_,rfl⟩
     have m2:B1 ∉ st:=fun y=>z2 ((JE B1 st).mpr y)
     rw[hs,if_neg (by rw[decide_eq_false m2,Bool.and_false];decide),e1]
   ·refine Zy ⟨sG,?_,_,rfl⟩
    have m1:A1 ∉ st:=fun y=>z ((JE A1 st).mpr y)
    rw[hs,if_neg (by rw[decide_eq_false m1,Bool.false_and];decide),e1]
  ·have sG2:=Same.trans sG s2
   obtain⟨hc,hp⟩:=ZbN h3
   have hhl:half st<=100:=by unfold half;omega
   refine⟨l,_,rfl,.inl (SqL.of hl),?_⟩
   refine⟨_,rfl,t,_,rfl,.inr (SqT.of (sG2 _ _ ht)),_,_,rfl,rfl,_,_,rfl,rfl,⟨by decide,by decide⟩,?_⟩
   dsimp only[Jw]
   rw[hc]
   refine⟨_,rfl,_,rfl,_,_,rfl,rfl,_,_,rfl,rfl,_,rfl,_,_,rfl,rfl,⟨by omega,by omega⟩,?_⟩
   rw[e1,hlen]
   show Q (.int ((((JO es st es.length:Nat):Int)+(half st:Int)-1)/(half st:Int))) G2
   rw[show((JO es st es.length:Nat):Int)+(half st:Int)-1=((JO es st es.length+half st-1:Nat):Int) by omega,ZcY]
   exact q G2 sG2
end
end My
namespace L2
open PySem PySem.Spec PyProof.Rows
theorem Zip{X:Cx}{K:PySem.W.Frag}(hK:X.K=K):OpR X (compareOp .In) (rIn K false):=by
 subst hK
 exact Y1
theorem ZdV{X:Cx}{K:PySem.W.Frag}{es:List Expr}{k:Nat}{t:TGs}{n:Nat}{pos:Pos}(hK:X.K=K)(hc:X.calm=true)(h:PGs X es t)(h1:(assignEach es X.env).length=n)(h2:(assignEach es X.env).findIdx? (·.1)=none):PG X (.Tuple es k pos) (Zkf K n t):=by
 subst hK
 exact Zd0 hc h h1 h2
end L2
namespace My
open PySem L2
def ats(es:List (Nat×Nat))(x:Nat):List Nat:=(List.range es.length).filter fun j=>atB (es.getD j (0,0)) x
theorem Je(l:List Nat)(x:Nat):nl l++[V.int (x:Int)]=nl (l++[x]):=by unfold nl;rw[List.map_append];rfl
theorem YM(p:Nat)(e:Nat×Nat):inV (.int (p:Int)) [.int (e.1:Int),.int (e.2:Int)]=true↔At e p:=by
 unfold inV At
 simp only[List.any_cons,List.any_nil,Bool.or_false,eqV,Bool.or_eq_true]
 constructor
 ·rintro(h|h)
  ·left;have:=eq_of_beq h;omega
  ·right;have:=eq_of_beq h;omega
 ·rintro(h|h)
  ·left;exact beq_iff_eq.mpr (by rw[h])
  ·right;exact beq_iff_eq.mpr (by rw[h])
theorem Zi1(L:Nat->Nat)(n:Nat):lv L n=((List.range n).map fun p:Nat=>(L p:Int)).map V.int:=by
 unfold lv
 rw[List.map_map]
 rfl
theorem ZcB(es:List (Nat×Nat))(N:Nat):(List.replicate N ([.int 0]:List V)).flatten=lv (dg es 0) N:=by
 apply List.ext_getElem?
 intro i
 have hl:(List.replicate N ([.int 0]:List V)).flatten=List.replicate N (.int 0):=by
  induction N with
  |zero=>rfl
  |succ n ih=>rw[List.replicate_succ,List.flatten_cons,ih];rfl
 rw[hl]
 by_cases hi:i<N
 ·rw[Zcr _ hi,List.getElem?_replicate,if_pos hi]
  rfl
 ·rw[List.getElem?_eq_none (by rw[List.length_replicate];omega),List.getElem?_eq_none (by rw[Zbi];omega)]
theorem ZfP{L L':Nat->Nat}(n:Nat)(h:∀p,L p=L' p):lv L n=lv L' n:=by rw[show L=L' from funext h]
theorem ZiI(es:List (Nat×Nat))(k:Nat)(h:(es.getD k (0,0)).1≠(es.getD k (0,0)).2)(p:Nat):
  put (put (dg es k) (es.getD k (0,0)).1 (dg es k (es.getD k (0,0)).1+1)) (es.getD k (0,0)).2 (put (dg es k) (es.getD k (0,0)).1 (dg es k (es.getD k (0,0)).1+1) (es.getD k (0,0)).2+1) p=dg es (k+1) p:=by
 rw[Zcw]
 unfold put atB
 by_cases h1:p=(es.getD k (0,0)).1
 ·have h2:¬p=(es.getD k (0,0)).2:=fun z=>h (h1.symm.trans z)
  rw[if_neg h2,if_pos h1,<-h1]
  simp
 ·by_cases h2:p=(es.getD k (0,0)).2
  ·rw[if_pos h2,if_neg (fun z=>h z.symm),<-h2]
   simp
  ·rw[if_neg h2,if_neg h1,beq_eq_false_iff_ne.mpr h1,beq_eq_false_iff_ne.mpr h2]
   rfl
def Z4(es:List (Nat×Nat))(x i:Nat):List Nat:=(List.range i).filter fun j=>atB (es.getD j (0,0)) x
theorem YX{es:List (Nat×Nat)}{x i:Nat}(h:At (es.getD i (0,0)) x):Z4 es x (i+1)=Z4 es x i++[i]:=by
 unfold Z4
 rw[List.range_succ,List.filter_append,List.filter_cons,if_pos (atB_iff.mpr h)]
 rfl
theorem YW{es:List (Nat×Nat)}{x i:Nat}(h:¬At (es.getD i (0,0)) x):Z4 es x (i+1)=Z4 es x i:=by
 unfold Z4
 rw[List.range_succ,List.filter_append,List.filter_cons,if_neg (fun z=>h (atB_iff.mp z))]
 simp
theorem JC(es:List (Nat×Nat))(x i:Nat):(Z4 es x i).length<=i:=by
 unfold Z4
 exact Nat.le_trans (List.length_filter_le _ _) (by rw[List.length_range];exact Nat.le_refl _)
section
variable{P:Program}{w:World}{K:PySem.W.Frag}{mg:Str->Option Value}{base:Heap}
abbrev sAt:Stmt:=top 7
abbrev Zhy:Scope:=YU (Ze8 (Jl 7 0))
def spAt:Sp:=fun vs H Q _=>∃(p:Addr)(n:Nat)(q:Addr)(ts:List V)(es:List (Nat×Nat))(x:Nat),vs=[.ref p,.int (x:Int)]/\NetZ H p n q ts es/\∀H' t,Same H H'->H' t=some (.tup (nl (ats es x)))->Q (.ref t) H'
theorem ZjV:(["tie","ends","point"]:List Str).Nodup:=by decide+kernel
theorem ZkX:Zx ["net","point"] ["net","point"] (Zd sAt):=⟨rfl,rfl,rfl,by decide+kernel,rfl,by decide+kernel,by decide+kernel⟩
theorem Zk4{f:Addr}{cdv:Value}{A:Around}{outer:List Env}{s:Shared}{H:Hp}{E:XK}:
  Blk (ZF CX0 P w K mg base ["net","point"] "ties_at" (Zd sAt) f cdv A outer s H E).nox Zhy [("point",s.heap.objs.size+1)] ["tie","ends","point"] [none,none,some 1]:=by
 refine⟨rfl,rfl,by decide+kernel,by decide+kernel,fun p hp=>?_,fun y hy e=>?_,⟨rfl,rfl,rfl⟩,trivial⟩
 ·rw[List.mem_singleton.mp hp]
  rfl
 ·have hy':y∈[((PySem.Str.ofString ".0":Str),NameKind.local),(PySem.Str.ofString "tie",.local),(PySem.Str.ofString "ends",.local),(PySem.Str.ofString "point",.free)]:=hy
  simp only[List.mem_cons,List.not_mem_nil,or_false]at hy'
  rcases hy' with rfl|rfl|rfl|rfl<;>first|rfl|cases e
theorem ZjN{f:Addr}{fd:FuncData}(F:Fun K "ties_at" "ties_at" sAt f fd)(T:Bi mg)(hen:mg "enumerate"=none):FnOk P w K mg base CX0 1 f fd ["net","point"] spAt:=by
 refine F.ok ZkX (fun vs H Q E h=>?_) (fun cdv A outer s H vs Q E hr h=>?_)
 ·obtain⟨p,n,q,ts,es,x,rfl,_⟩:=h
  rfl
 ·obtain⟨p,n,qa,ts,es,x,rfl,N,q⟩:=h
  refine⟨_,Zh (Z2 (Z9 ZA rfl T.tuple Yh (Ze (Zf0 Zk4 rfl rfl hen (Ze (Zo Zl (pv 0) Zc (fun _ _=>rfl)) Za) (ZN (Y6 (ZJ 0) (YB _)) Yc) rfl
   (fun C fp s H=>ZdV (K:=K) (n:=2) rfl rfl (@Yp _ _ _ _ _ (Zt (i:=0) ZjV rfl (Or.inl rfl) (hf:=Or.inr rfl)) (@Yp _ _ _ _ _ (Zt (i:=1) ZjV rfl (Or.inl rfl) (hf:=Or.inr rfl)) JU rfl) rfl) rfl rfl)
   (fun C fp s H=>Yv (Zi (Zip rfl) (pv 2) (pv 1) rfl)) (fun C fp s H=>pv 0)) Za))),?_⟩
  refine⟨_,rfl,p,_,_,_,rfl,rfl,SqT.of N.e1,rfl,qa,ts,rfl,SqT.of N.e2,(by have:=N.len;have:=N.l200;omega),fun i ys σ H'=>Same H H'/\ys=nl (Z4 es x i)/\∃v0 v1,σ=[v0,v1,some (.int (x:Int))],⟨Same.refl H,rfl,none,none,rfl⟩,fun i ys σ H' hi⟨e1,e2,_⟩=>?_,fun i y ys σ H' hx⟨e1,e2,v0,v1,e3⟩ Tt H2 s2 hT=>?_,fun ys σ H'⟨e1,e2,_⟩ l H2 s2 hl=>?_⟩
  ·subst e2
   exact⟨SqT.of (e1 _ _ N.e2),by rw[Z8];exact JC _ _ _⟩
  ·subst e2 e3
   obtain⟨a,rfl,ha⟩:=N.tie i y hx
   have ha2:=s2 _ _ (e1 _ _ ha)
   refine⟨Tt,_,rfl,SqT.of hT,rfl,_,_,rfl,_,_,rfl,rfl,?_⟩
   refine⟨_,rfl,_,rfl,a,_,rfl,.inr (SqT.of ha2),rfl,rfl,_,rfl,?_⟩
   refine ZQ (fun hh=>⟨_,rfl,Same.trans e1 s2,?_,_,_,rfl⟩) (fun hh=>⟨Same.trans e1 s2,?_,_,_,rfl⟩)
   ·rw[YX ((YM x (es.getD i (0,0))).mp hh),<-Je]
   ·rw[YW fun z=>hh ((YM x (es.getD i (0,0))).mpr z)]
  ·subst e2
   refine⟨l,_,rfl,.inl hl,fun t H3 s3 ht=>q H3 t (Same.trans (Same.trans e1 s2) s3) ?_⟩
   rw[ht,N.len]
   rfl
abbrev sMo:Stmt:=top 9
def spMo:Sp:=fun vs H Q _=>∃p n q ts es,vs=[.ref p]/\NetZ H p n q ts es/\∀H' M,Same H H'->IsMax (dl es n) M->Q (.int M) H'
theorem scMo:Zx ["net","crowds","ends","point"] ["net"] (Zd sMo):=⟨rfl,rfl,rfl,by decide+kernel,rfl,by decide+kernel,by decide+kernel⟩
theorem Zj7{f:Addr}{fd:FuncData}(F:Fun K "most_of" "most_of" sMo f fd)(T:Bi mg):FnOk P w K mg base CX0 1 f fd ["net"] spMo:=by
 refine F.ok scMo (fun vs H Q E h=>?_) (fun cdv A outer s H vs Q E hr h=>?_)
 ·obtain⟨p,n,q,ts,es,rfl,_⟩:=h
  rfl
 ·obtain⟨p,n,qa,ts,es,rfl,N,q⟩:=h
  refine⟨_,Zb (Zm (i:=1) scMo.nd rfl (Or.inl rfl) (Zq ZfB (Jc (Ze Zc Za)) (Zo Zl (pv 0) Zc (fun _ _=>rfl))))
   (Zb (ZZ PassesOwn.never rfl (Zat (Zo Zl (pv 0) Zc (fun _ _=>rfl))) (Zt (i:=2) scMo.nd rfl (Or.inl rfl))
    (Zh (ZZ PassesOwn.never rfl (Zat (pv 2)) (Zt (i:=3) scMo.nd rfl (Or.inl rfl)) (Zh (ZgD (pv 1) (pv 3) Zgd Zc ZfX Zas)))))
   (Zh (Z2 (ZgF (d:=0) rfl (pv 1) Zc rfl T.max rfl)))),?_⟩
  have h60:=N.n60
  refine⟨(by show 1<=sizeLine;decide),fun b hb=>?_⟩
  refine⟨_,rfl,p,_,_,_,rfl,rfl,SqT.of (by rw[Zg (Zz N.e1 hb)];exact N.e1),rfl,b,(n:Int),_,rfl,rfl,Zf,(by omega),(by omega),(by rw[sizeLine_eq];show 1*((n:Int)).toNat<=_;omega),fun D hD=>?_⟩
  have s1:Same H (upd (upd H b (.lst [.int 0])) D (.lst (List.replicate ((n:Int)).toNat ([.int 0]:List V)).flatten)):=Same.trans (Zs hb) (Zs hD)
  have hD0:H D=none:=(Zs hb).none hD
  rw[Int.toNat_natCast,ZcB es]
  rw[Int.toNat_natCast,ZcB es]at s1
  have step:∀(H2:Hp)(g:Nat->Nat)(k:Nat),k<n->Same H H2->H2 D=some (.lst (lv g n))->∀(Q':Hp->Prop),(∀H3,Same H H3->H3 D=some (.lst (lv (put g k (g k+1)) n))->Q' H3)->
    gGetL (.ref D) (.int (k:Int)) H2 fun x H3=>ipI (fun i j=>i+j) x (.int 1) H3 fun z H5=>rSetN (.ref D) (.int (k:Int)) z H5 Q':=by
   intro H2 g k hk s2 hg Q' q'
   refine⟨D,_,k,.int (g k:Int),rfl,rfl,hg,Zcr _ hk,(g k:Int),1,rfl,rfl,D,_,k,rfl,rfl,hg,by rw[Zbi];exact hk,q' _ (s2.wr hD0) ?_⟩
   rw[Zf,<-Zi0]
   rfl
  refine⟨_,rfl,p,_,_,_,rfl,rfl,SqT.of (s1 _ _ N.e1),rfl,qa,rfl,⟨_,SqT.of (s1 _ _ N.e2)⟩,Zad (K:=K) (a:=qa) (xs:=ts) (fun i σ H'=>(∃v2 v3,σ=[some (.ref p),some (.ref D),v2,v3])/\Same H H'/\H' D=some (.lst (lv (dg es i) n))) ⟨⟨_,_,rfl⟩,s1,Zf⟩ (fun i σ H' _ z=>SqT.of (z.2.1 _ _ N.e2)) (fun i x σ H' hx⟨⟨v2,v3,e⟩,sH,hc⟩=>?_) (fun σ H'⟨⟨v2,v3,z1⟩,z2,z3⟩=>?_)⟩
  ·subst e
   obtain⟨a,rfl,ha⟩:=N.tie i x hx
   have hlt:i<es.length:=by rw[<-N.len];exact(List.getElem?_eq_some_iff.mp hx).1
   obtain⟨a1,b1,ab⟩:=N.ok _ (getD_mem hlt)
   have tw:=ZiI es i ab
   generalize hA:(es.getD i (0,0)).1=A1 at*
   generalize hB:(es.getD i (0,0)).2=B1 at*
   refine⟨_,rfl,a,rfl,⟨_,SqT.of (sH _ _ ha)⟩,Zad (K:=K) (a:=a) (xs:=[.int (A1:Int),.int (B1:Int)]) (fun j σ H2=>(∃v3,σ=[some (.ref p),some (.ref D),some (.ref a),v3])/\Same H H2/\H2 D=some (.lst (lv (if j=0 then dg es i else if j=1 then put (dg es i) A1 (dg es i A1+1)else put (put (dg es i) A1 (dg es i A1+1)) B1 (put (dg es i) A1 (dg es i A1+1) B1+1)) n))) ⟨⟨v3,rfl⟩,sH,hc⟩ (fun j σ H2 _ z=>SqT.of (z.2.1 _ _ ha)) (fun j y σ H2 hy⟨⟨v3,e3⟩,s2,h2⟩=>?_) (fun σ H2⟨⟨v3,e3⟩,s2,h2⟩=>?_)⟩
   ·subst e3
    match j,hy with
    |0,hy=>
     cases hy
     exact⟨_,rfl,_,rfl,step H2 _ A1 a1 s2 h2 _ fun H3 s3 h3=>⟨⟨_,rfl⟩,s3,h3⟩⟩
    |1,hy=>
     cases hy
     exact⟨_,rfl,_,rfl,step H2 _ B1 b1 s2 h2 _ fun H3 s3 h3=>⟨⟨_,rfl⟩,s3,h3⟩⟩
   ·refine⟨⟨_,_,e3⟩,s2,?_⟩
    rw[h2,<-ZfP n tw]
    rfl
  ·subst z1
   rw[show ts.length=es.length from N.len,Zi1]at z3
   refine⟨_,rfl,D,_,rfl,SqL.of z3,fun M hM=>q H' M z2 hM⟩
abbrev sCr:Stmt:=top 8
def spCr:Sp:=fun vs H Q _=>∃(p:Addr)(n:Nat)(q:Addr)(ts:List V)(es:List (Nat×Nat))(x:Nat),vs=[.ref p,.int (x:Int)]/\NetZ H p n q ts es/\∀H',Same H H'->Q (.int (dg es es.length x:Int)) H'
theorem ZkW:Zx ["net","point"] ["net","point"] (Zd sCr):=⟨rfl,rfl,rfl,by decide+kernel,rfl,by decide+kernel,by decide+kernel⟩
theorem ZjG{f:Addr}{fd:FuncData}(F:Fun K "crowd" "crowd" sCr f fd)(T:Bi mg)(FA:FnE P w K mg base "ties_at" ["net","point"] 1 spAt):FnOk P w K mg base CX0 2 f fd ["net","point"] spCr:=by
 refine F.ok ZkW (fun vs H Q E h=>?_) (fun cdv A outer s H vs Q E hr h=>?_)
 ·obtain⟨p,n,q,ts,es,x,rfl,_⟩:=h
  rfl
 ·obtain⟨p,n,qa,ts,es,x,rfl,N,q⟩:=h
  refine⟨_,Zh (Z2 (Zn Zk rfl T.len Ye (Ze (Z0 FA hr (Ze (pv 0) (Ze (pv 1) Za))) Za))),?_⟩
  refine⟨_,rfl,_,rfl,p,n,qa,ts,es,x,rfl,N,fun H1 t s1 ht=>⟨t,_,rfl,.inr (SqT.of ht),?_⟩⟩
  rw[Z8]
  exact q H1 s1
def ZP(es:List (Nat×Nat))(M:Int)(i:Nat):List Nat:=(List.range i).filter fun x=>decide ((dg es es.length x:Int)=M)
theorem ZbQ{es:List (Nat×Nat)}{M:Int}{i:Nat}(h:(dg es es.length i:Int)=M):ZP es M (i+1)=ZP es M i++[i]:=by
 unfold ZP
 rw[List.range_succ,List.filter_append,List.filter_cons,if_pos (decide_eq_true h)]
 rfl
theorem Zbs{es:List (Nat×Nat)}{M:Int}{i:Nat}(h:¬(dg es es.length i:Int)=M):ZP es M (i+1)=ZP es M i:=by
 unfold ZP
 rw[List.range_succ,List.filter_append,List.filter_cons,if_neg (fun z=>h (of_decide_eq_true z))]
 simp
theorem ZdF(es:List (Nat×Nat))(M:Int)(i:Nat):(ZP es M i).length<=i:=by
 unfold ZP
 exact Nat.le_trans (List.length_filter_le _ _) (by rw[List.length_range];exact Nat.le_refl _)
theorem ZbR{es:List (Nat×Nat)}{n:Nat}{M:Int}(h:IsMax (dl es n) M)(hn:0<n):∃x,(ZP es M n)[0]?=some x:=by
 rcases h with⟨z,_⟩|⟨hm,_⟩
 ·have:=congrArg List.length z
  unfold dl at this
  rw[List.length_map,List.length_range,List.length_nil]at this
  omega
 ·unfold dl at hm
  obtain⟨x,hx,e⟩:=List.mem_map.mp hm
  have hf:x∈ZP es M n:=List.mem_filter.mpr ⟨hx,decide_eq_true e⟩
  cases hc:ZP es M n with
  |nil=>rw[hc]at hf;cases hf
  |cons y l=>exact⟨y,rfl⟩
def ZkQ:Stmt->Scope
 | .Return (some (.Subscript (.ListComp _ _ s _) _ _)) _=>s
 |_=>{kind:= .function,names:=[],isGenerator:=false,isCoroutine:=false}
abbrev sFc:Stmt:=top 14
abbrev fcS:Scope:=ZkQ (Jl 14 0)
def spFc:Sp:=fun vs H Q _=>∃(p:Addr)(n:Nat)(q:Addr)(ts:List V)(es:List (Nat×Nat))(M:Int),vs=[.ref p,.int M]/\NetZ H p n q ts es/\IsMax (dl es n) M/\0<n/\∀(H':Hp)(x:Nat),Same H H'->(ZP es M n)[0]?=some x->Q (.int (x:Int)) H'
theorem Zlu:(["point","most","net"]:List Str).Nodup:=by decide+kernel
theorem ZkV:Zx ["net","most"] ["net","most"] (Zd sFc):=⟨rfl,rfl,rfl,by decide+kernel,rfl,by decide+kernel,by decide+kernel⟩
theorem Zk0{f:Addr}{cdv:Value}{A:Around}{outer:List Env}{s:Shared}{H:Hp}{E:XK}:
  Blk (ZF CX0 P w K mg base ["net","most"] "first_crowded" (Zd sFc) f cdv A outer s H E).nox fcS [("net",s.heap.objs.size+1),("most",s.heap.objs.size+2)] ["point","most","net"] [none,some 1,some 0]:=by
 refine⟨rfl,rfl,by decide+kernel,by decide+kernel,fun p hp=>?_,fun y hy e=>?_,⟨rfl,rfl,rfl⟩,⟨rfl,rfl,rfl⟩,trivial⟩
 ·simp only[List.mem_cons,List.not_mem_nil,or_false]at hp
  rcases hp with rfl|rfl<;>rfl
 ·have hy':y∈[((PySem.Str.ofString ".0":Str),NameKind.local),(PySem.Str.ofString "point",.local),(PySem.Str.ofString "crowd",.globalImplicit),(PySem.Str.ofString "most",.free),(PySem.Str.ofString "net",.free)]:=hy
  simp only[List.mem_cons,List.not_mem_nil,or_false]at hy'
  rcases hy' with rfl|rfl|rfl|rfl|rfl<;>first|rfl|cases e
theorem ZjE{f:Addr}{fd:FuncData}(F:Fun K "first_crowded" "first_crowded" sFc f fd)(T:Bi mg)(FC:FnE P w K mg base "crowd" ["net","point"] 2 spCr):FnOk P w K mg base CX0 3 f fd ["net","most"] spFc:=by
 refine F.ok ZkV (fun vs H Q E h=>?_) (fun cdv A outer s H vs Q E hr h=>?_)
 ·obtain⟨p,n,q,ts,es,M,rfl,_⟩:=h
  rfl
 ·obtain⟨p,n,qa,ts,es,M,rfl,N,hM,hn,q⟩:=h
  have h60:=N.n60
  refine⟨_,Zh (Z2 (Zo ZV (Zau Zk0 rfl rfl T.range (Ze (Zo Zl (pv 0) Zc (fun _ _=>rfl)) Za) (ZN (Y6 (ZJ 0) (YB _)) Yc) rfl (fun C fp s H=>Zt (i:=0) Zlu rfl (Or.inl rfl))
   (fun C fp s H=>Yv (Zi ZR (Z0 FC hr (Ze (pv 2) (Ze (pv 0) Za))) (pv 1) (Zp _))) (fun C fp s H=>pv 0)) Zc (fun _ _=>rfl))),?_⟩
  obtain⟨x,hx⟩:=ZbR hM hn
  refine⟨_,rfl,p,_,_,_,rfl,rfl,SqT.of N.e1,rfl,n,rfl,by omega,fun i ys σ G=>Same H G/\ys=nl (ZP es M i)/\∃v0,σ=[v0,some (.int M),some (.ref p)],⟨Same.refl _,rfl,none,rfl⟩,fun i ys σ G hi⟨_,e,_⟩=>(by rw[e,Z8];exact ZdF _ _ _),fun i ys σ G hi⟨sG,e1,v0,e⟩=>?_,fun ys σ G⟨sG,e1,_⟩ l G2 s2 hl=>?_⟩
  ·subst e1 e
   refine⟨_,rfl,_,rfl,p,n,qa,ts,es,i,(by rw[Int.zero_add];rfl),N.same sG,fun G1 s1=>⟨_,rfl,rfl,_,rfl,?_⟩⟩
   have sG1:=Same.trans sG s1
   refine ZQ (fun z=>?_) (fun z=>?_)
   ·have em:(dg es es.length i:Int)=M:=V.int.inj (of_decide_eq_true z)
    refine⟨_,rfl,sG1,?_,_,rfl⟩
    rw[ZbQ em,<-Je,Int.zero_add]
   ·have em:¬(dg es es.length i:Int)=M:=fun y=>z (decide_eq_true (by rw[y]))
    exact⟨sG1,by rw[Zbs em],_,rfl⟩
  ·subst e1
   exact⟨l,_,_,_,rfl,rfl,SqL.of hl,ZH (j:=0) (Zd7 hx),q G2 x (Same.trans sG s2) hx⟩
end
def Rt(H:Hp)(d:Addr)(ls:List (List Nat)):Prop:=∃tr:List (Addr×List Nat),H d=some (.lst (tr.map fun x=>V.ref x.1))/\tr.map (·.2)=ls/\∀x∈tr,H x.1=some (.tup (nl x.2))
def Zl5:Stmt->Scope
 | .For _ _ (.Assign _ (.BinOp _ _ (.ListComp _ _ s _) _) _::_) _ _=>s
 |_=>{kind:= .function,names:=[],isGenerator:=false,isCoroutine:=false}
def Zla:Stmt->Scope
 | .Return (some (.ListComp _ _ s _)) _=>s
 |_=>{kind:= .function,names:=[],isGenerator:=false,isCoroutine:=false}
def Jj(l:List Nat):Bool:=decide (3<=l.length)&&decide (l.length%2=1)
section
variable{P:Program}{w:World}{K:PySem.W.Frag}{mg:Str->Option Value}{base:Heap}
abbrev sPo:Stmt:=top 13
abbrev nPo:List Str:=["net","rows","point"]
abbrev Zlh:Scope:=Zl5 (Jl 13 1)
abbrev Zlg:Scope:=Zla (Jl 13 2)
def spPo:Sp:=fun vs H Q _=>∃(p:Addr)(n:Nat)(q:Addr)(ts:List V)(es:List (Nat×Nat)),vs=[.ref p]/\NetZ H p n q ts es/\n<=9/\∀H' d,Same H H'->Rt H' d (parts n)->Q (.ref d) H'
theorem Zln:(["row","point"]:List Str).Nodup:=by decide+kernel
theorem Zlm:(["row"]:List Str).Nodup:=by decide+kernel
theorem scPo:Zx nPo ["net"] (Zd sPo):=⟨rfl,rfl,rfl,by decide+kernel,rfl,by decide+kernel,by decide+kernel⟩
theorem Zks{f:Addr}{cdv:Value}{A:Around}{outer:List Env}{s:Shared}{H:Hp}{E:XK}:
  Blk (ZF CX0 P w K mg base nPo "parts_of" (Zd sPo) f cdv A outer s H E).nox Zlh [("point",s.heap.objs.size+1)] ["row","point"] [none,some 2]:=by
 refine⟨rfl,rfl,by decide+kernel,by decide+kernel,fun p hp=>?_,fun y hy e=>?_,⟨rfl,rfl,rfl⟩,trivial⟩
 ·rw[List.mem_singleton.mp hp]
  rfl
 ·have hy':y∈[((PySem.Str.ofString ".0":Str),NameKind.local),(PySem.Str.ofString "row",.local),(PySem.Str.ofString "point",.free)]:=hy
  simp only[List.mem_cons,List.not_mem_nil,or_false]at hy'
  rcases hy' with rfl|rfl|rfl<;>first|rfl|cases e
theorem Zkr{f:Addr}{cdv:Value}{A:Around}{outer:List Env}{s:Shared}{H:Hp}{E:XK}:
  Blk (ZF CX0 P w K mg base nPo "parts_of" (Zd sPo) f cdv A outer s H E).nox Zlg [] ["row"] [none]:=by
 refine⟨rfl,rfl,by decide+kernel,by decide+kernel,fun p hp=>(by cases hp),fun y hy e=>?_,trivial⟩
 have hy':y∈[((PySem.Str.ofString ".0":Str),NameKind.local),(PySem.Str.ofString "row",.local),(PySem.Str.ofString "len",.globalImplicit)]:=hy
 simp only[List.mem_cons,List.not_mem_nil,or_false]at hy'
 rcases hy' with rfl|rfl|rfl<;>cases e
theorem Zj0{f:Addr}{fd:FuncData}(F:Fun K "parts_of" "parts_of" sPo f fd)(T:Bi mg):FnOk P w K mg base CX0 1 f fd ["net"] spPo:=by
 refine F.ok scPo (fun vs H Q E h=>?_) (fun cdv A outer s H vs Q E hr h=>?_)
 ·obtain⟨p,n,q,ts,es,rfl,_⟩:=h
  rfl
 ·obtain⟨p,n,qa,ts,es,rfl,N,n9,q⟩:=h
  refine⟨_,Zb (Zm (i:=1) scPo.nd rfl (Or.inl rfl) (Yb (Ze (Zu Za) Za)))
   (Zb (ZZ PassesOwn.never rfl (ZM rfl T.range (Ze (Zo Zl (pv 0) Zc (fun _ _=>rfl)) Za)) (Zt (i:=2) scPo.nd rfl (Or.inr rfl))
    (Zh (Zm (i:=1) scPo.nd rfl (Or.inl rfl) (Zq Jr (pv 1) (Zfz Zks rfl (pv 1) (ZJ 1) (fun C fp s H=>Zt (i:=0) Zln rfl (Or.inl rfl)) (fun C fp s H=>YK) (fun C fp s H=>Zq JW (pv 0) (Zu (Ze (pv 1) Za))))))))
   (Zh (Z2 (Zfz Zkr rfl (pv 1) (ZJ 1) (fun C fp s H=>Zt (i:=0) Zlm rfl (Or.inl rfl))
    (fun C fp s H=>Yv (PW.pt (pw_and (Zi ZfC (Zn (JB (K:=K) rfl) rfl T.len Ye (Ze (pv 0) Za)) Zc (Zp _)) (pw_and1 (Zi ZR (Zq ZC (Zn (JB (K:=K) rfl) rfl T.len Ye (Ze (pv 0) Za)) Zc) Zc (Zp _)))))) (fun C fp s H=>pv 0))))),?_⟩
  have pow9:∀k,k<=9->(subs k).length<=512:=fun k hk=>by
   rw[Zc9]
   exact Nat.pow_le_pow_right (n:=2) (by decide) hk
  refine⟨rfl,fun e0 H1 s1 he=>⟨rfl,fun d0 H2 s2 hd=>?_⟩⟩
  have s02:=Same.trans s1 s2
  refine⟨_,rfl,p,_,_,_,rfl,rfl,SqT.of (s02 _ _ N.e1),rfl,_,rfl,by omega,by omega,ZT (lo:=0) (n:=((n:Nat):Int).toNat) (fun k σ G=>∃d v2,σ=[some (.ref p),some (.ref d),v2]/\Same H G/\Rt G d (subs k))
   ⟨d0,_,rfl,s02,[(e0,[])],hd,rfl,fun x hx=>by rw[List.mem_singleton.mp hx];exact s2 _ _ he⟩ (fun k σ G hk⟨d,v2,e,sG,hRt⟩=>?_) (fun σ G⟨d,v2,e,sG,hRt⟩=>?_)⟩
  ·subst e
   have hk9:k<9:=by omega
   obtain⟨tr,h1,h2,h3⟩:=hRt
   have hl:tr.length<=512:=by rw[<-List.length_map (f:=(·.2)),h2];exact pow9 k (by omega)
   refine⟨_,rfl,_,rfl,d,_,rfl,SqL.of h1,(by rw[List.length_map];omega),fun i ys σ G'=>Same G G'/\(∃tr':List (Addr×List Nat),ys=(tr'.map fun x=>V.ref x.1)/\tr'.map (·.2)=((tr.take i).map (·.2)).map (fun l=>l++[k])/\∀x∈tr',G' x.1=some (.tup (nl x.2)))/\∃v0,σ=[v0,some (.int (0+(k:Int)))],
    ⟨Same.refl _,⟨[],rfl,rfl,fun x z=>by cases z⟩,none,rfl⟩,fun i ys σ G' hi⟨sG',⟨tr',e1,e2,_⟩,_⟩=>⟨SqL.of (sG' _ _ h1),?_⟩,fun i x ys σ G' hx⟨sG',⟨tr',e1,e2,e3⟩,v0,e⟩=>?_,fun ys σ G'⟨sG',⟨tr',e1,e2,e3⟩,_⟩ lb G2 s2 hlb=>?_⟩
   ·have hle:=congrArg List.length e2
    rw[List.length_map,List.length_map,List.length_map,List.length_take]at hle
    rw[e1,List.length_map]
    omega
   ·subst e1 e
    rw[List.getElem?_map]at hx
    cases ht:tr[i]? with
    |none=>rw[ht]at hx;cases hx
    |some y=>
     rw[ht]at hx
     cases hx
     have hy:=sG' _ _ (h3 y (List.mem_of_getElem? ht))
     have hyl:y.2.length<=9:=by
      have hm:y.2∈subs k:=by rw[<-h2];exact List.mem_map.mpr ⟨y,List.mem_of_getElem? ht,rfl⟩
      have:=Y0 k _ hm
      omega
     refine⟨_,rfl,_,rfl,rfl,fun t1 J1 u1 ht1=>⟨y.1,t1,_,_,rfl,rfl,u1 _ _ hy,ht1,(by rw[Z8,List.length_singleton];omega),fun t2 J2 u2 ht2=>?_⟩⟩
     have u12:=Same.trans u1 u2
     refine⟨Same.trans sG' u12,⟨tr'++[(t2,y.2++[k])],by rw[List.map_append];rfl,?_,fun x hx=>?_⟩,_,rfl⟩
     ·rw[List.map_append,e2,List.take_succ,ht,List.map_append,List.map_append]
      rfl
     ·rcases List.mem_append.mp hx with z|z
      ·exact u12 _ _ (e3 x z)
      ·rw[List.mem_singleton.mp z]
       show J2 t2=some (.tup (nl (y.2++[k])))
       rw[ht2,<-Je,Int.zero_add]
   ·subst e1
    rw[List.length_map,List.take_length,h2]at e2
    have hl':tr'.length<=512:=by
     have hle:=congrArg List.length e2
     rw[List.length_map,List.length_map]at hle
     rw[hle]
     exact pow9 k (by omega)
    have sG2:=Same.trans sG' s2
    refine⟨d,lb,_,_,rfl,rfl,sG2 _ _ h1,hlb,(by rw[List.length_map,List.length_map];omega),fun d2 G3 s3 hd2=>?_⟩
    refine⟨d2,_,rfl,Same.trans sG (Same.trans sG2 s3),tr++tr',by rw[hd2,List.map_append],?_,fun x hx=>?_⟩
    ·rw[List.map_append,h2,e2]
     rfl
    ·rcases List.mem_append.mp hx with z|z
     ·exact s3 _ _ (sG2 _ _ (h3 x z))
     ·exact s3 _ _ (s2 _ _ (e3 x z))
  ·subst e
   rw[Int.toNat_natCast]at hRt
   obtain⟨tr,h1,h2,h3⟩:=hRt
   have hl:tr.length<=512:=by rw[<-List.length_map (f:=(·.2)),h2];exact pow9 n n9
   refine⟨_,rfl,d,_,rfl,SqL.of h1,(by rw[List.length_map];omega),fun i ys σ G'=>Same G G'/\ys=(((tr.take i).filter fun x=>Jj x.2).map fun x=>V.ref x.1)/\∃v0,σ=[v0],
    ⟨Same.refl _,rfl,none,rfl⟩,fun i ys σ G' hi⟨sG',e1,_⟩=>⟨SqL.of (sG' _ _ h1),?_⟩,fun i x ys σ G' hx⟨sG',e1,v0,e⟩=>?_,fun ys σ G'⟨sG',e1,_⟩ lb G2 s2 hlb=>?_⟩
   ·rw[e1,List.length_map]
    exact Nat.le_trans (List.length_filter_le _ _) (List.length_take_le _ _)
   ·subst e1 e
    rw[List.getElem?_map]at hx
    cases ht:tr[i]? with
    |none=>rw[ht]at hx;cases hx
    |some y=>
     rw[ht]at hx
     cases hx
     have hy:=sG' _ _ (h3 y (List.mem_of_getElem? ht))
     have htk:tr.take (i+1)=tr.take i++[y]:=by rw[List.take_succ,ht];rfl
     have no:Jj y.2=false->(((tr.take i).filter fun x=>Jj x.2).map fun x=>V.ref x.1)=(((tr.take (i+1)).filter fun x=>Jj x.2).map fun x:Addr×List Nat=>V.ref x.1):=fun z=>by
      rw[htk,List.filter_append,List.filter_cons,if_neg (by rw[z];decide),List.filter_nil,List.append_nil]
     refine⟨_,rfl,y.1,_,rfl,.inr (SqT.of hy),_,_,rfl,rfl,_,rfl,?_⟩
     refine ZQ (fun z=>?_) (fun z=>?_)
     ·have z1:3<=y.2.length:=by have:=of_decide_eq_true z;rw[Z8]at this;omega
      refine⟨_,rfl,y.1,_,rfl,.inr (SqT.of hy),_,_,rfl,rfl,(by show(0:Int)<2;decide),rfl,_,rfl,?_⟩
      have em:((((nl y.2).length:Nat):Int)%2)=((y.2.length%2:Nat):Int):=by rw[Z8];rfl
      refine ZQ (fun z2=>?_) (fun z2=>?_)
      ·have z3:y.2.length%2=1:=by have:=V.int.inj (of_decide_eq_true z2);rw[em]at this;omega
       refine⟨_,rfl,sG',?_,_,rfl⟩
       rw[htk,List.filter_append,List.filter_cons,if_pos (by unfold Jj;rw[decide_eq_true z1,decide_eq_true z3];rfl),List.map_append]
       rfl
      ·have z3:¬y.2.length%2=1:=fun w=>z2 (decide_eq_true (by show V.int ((((nl y.2).length:Nat):Int)%2)=V.int 1;rw[em,w];rfl))
       exact⟨sG',no (by unfold Jj;rw[decide_eq_false z3,Bool.and_false]),_,rfl⟩
     ·have z1:¬3<=y.2.length:=fun w=>z (decide_eq_true (by show(3:Int)<=(((nl y.2).length:Nat):Int);rw[Z8];omega))
      exact Zy ⟨sG',no (by unfold Jj;rw[decide_eq_false z1,Bool.false_and]),_,rfl⟩
   ·subst e1
    rw[List.length_map,List.take_length]at hlb
    refine q G2 lb (Same.trans sG (Same.trans sG' s2)) ⟨tr.filter fun x=>Jj x.2,hlb,?_,fun x hx=>s2 _ _ (sG' _ _ (h3 x (List.mem_filter.mp hx).1))⟩
    show _=(subs n).filter Jj
    rw[<-h2,List.filter_map]
    rfl
end
end My
namespace L2
open PySem
theorem PS.nox{X:Cx}{st:Stmt}{t:TS}(h:PS X.nox st t):PS X st t:=fun pins s σ H D I hw=>
 wpAny_mono (h pins s σ H D (I.wish _) hw) (fun _ _ q=>q.unwish) fun _ _ z=>False.elim z
end L2
namespace My
open PySem L2
def Pap(H:Hp)(es:List (Nat×Nat))(n:Nat)(M:Int)(N:Int)(v:V):Prop:=
 (N=M/\∃(u:Addr)(x:Nat),v= .ref u/\H u=some (.tup [.str "point",.int (x:Int)])/\(ZP es M n)[0]?=some x)\/
 (M<N/\∃(u t:Addr)(l:List Nat),v= .ref u/\H u=some (.tup [.str "part",.ref t])/\H t=some (.tup (nl l))/\l∈parts n/\(Zb3 es l:Int)=N)
theorem Pap.same{H H':Hp}{es:List (Nat×Nat)}{n:Nat}{M N:Int}{v:V}(h:Pap H es n M N v)(s:Same H H'):Pap H' es n M N v:=by
 rcases h with⟨a,u,x,b,c,d⟩|⟨a,u,t,l,b,c,d,e⟩
 ·exact .inl ⟨a,u,x,b,s _ _ c,d⟩
 ·exact .inr ⟨a,u,t,l,b,s _ _ c,s _ _ d,e⟩
def ZcA(es:List (Nat×Nat))(s:Int×Option (List Nat))(l:List Nat):Int×Option (List Nat):=if s.1<(Zb3 es l:Int)then((Zb3 es l:Int),some l)else s
def YO(es:List (Nat×Nat))(n:Nat)(M:Int)(i:Nat):Int×Option (List Nat):=((parts n).take i).foldl (ZcA es) (M,none)
theorem Zfc{es:List (Nat×Nat)}{n:Nat}{M:Int}{i:Nat}{l:List Nat}(h:(parts n)[i]?=some l):YO es n M (i+1)=ZcA es (YO es n M i) l:=by
 unfold YO
 rw[List.take_succ,h]
 exact List.foldl_append
def PapO(H:Hp)(es:List (Nat×Nat))(n:Nat)(M:Int)(o:Option (List Nat))(v:V):Prop:=
 (o=none/\∃(u:Addr)(x:Nat),v= .ref u/\H u=some (.tup [.str "point",.int (x:Int)])/\(ZP es M n)[0]?=some x)\/
 (∃(u t:Addr)(l:List Nat),o=some l/\v= .ref u/\H u=some (.tup [.str "part",.ref t])/\H t=some (.tup (nl l)))
theorem PapO.tk{H H':Hp}{es:List (Nat×Nat)}{n:Nat}{M:Int}{o:Option (List Nat)}{v:V}(h:PapO H es n M o v)(s:∀q xs,H q=some (.tup xs)->H' q=some (.tup xs)):PapO H' es n M o v:=by
 rcases h with⟨a,u,x,b,c,d⟩|⟨u,t,l,a,b,c,d⟩
 ·exact .inl ⟨a,u,x,b,s _ _ c,d⟩
 ·exact .inr ⟨u,t,l,a,b,s _ _ c,s _ _ d⟩
theorem PapO.same{H H':Hp}{es:List (Nat×Nat)}{n:Nat}{M:Int}{o:Option (List Nat)}{v:V}(h:PapO H es n M o v)(s:Same H H'):PapO H' es n M o v:=h.tk fun q xs e=>s _ _ e
def Bd(H:Hp)(es:List (Nat×Nat))(n:Nat)(t:Addr):Prop:=∃M,IsMax (dl es n) M/\((M=0/\H t=some (.tup [.int 0,.non]))\/(0<M/\∃(N:Int)(v:V),H t=some (.tup [.int N,v])/\M<=N/\(∀l∈parts n,(Zb3 es l:Int)<=N)/\Pap H es n M N v/\∃o,YO es n M (parts n).length=(N,o)/\PapO H es n M o v))
theorem Bd.tk{H H':Hp}{es:List (Nat×Nat)}{n:Nat}{t:Addr}(h:Bd H es n t)(s:∀q xs,H q=some (.tup xs)->H' q=some (.tup xs)):Bd H' es n t:=by
 obtain⟨M,hM,⟨a,b⟩|⟨a,N,v,b,c,d,e,o,ho,hp⟩⟩:=h
 ·exact⟨M,hM,.inl ⟨a,s _ _ b⟩⟩
 ·refine⟨M,hM,.inr ⟨a,N,v,s _ _ b,c,d,?_,o,ho,hp.tk s⟩⟩
  rcases e with⟨a,u,x,b,c,d⟩|⟨a,u,t,l,b,c,d,e⟩
  ·exact .inl ⟨a,u,x,b,s _ _ c,d⟩
  ·exact .inr ⟨a,u,t,l,b,s _ _ c,s _ _ d,e⟩
section
variable{P:Program}{w:World}{K:PySem.W.Frag}{mg:Str->Option Value}{base:Heap}
abbrev sBd:Stmt:=top 15
abbrev nBd:List Str:=["net","most","number","paper","part","barred"]
def spBd:Sp:=fun vs H Q _=>∃(p:Addr)(n:Nat)(q:Addr)(ts:List V)(es:List (Nat×Nat)),vs=[.ref p]/\NetZ H p n q ts es/\n<=9/\∀H' t,Same H H'->Bd H' es n t->Q (.ref t) H'
theorem scBd:Zx nBd ["net"] (Zd sBd):=⟨rfl,rfl,rfl,by decide+kernel,rfl,by decide+kernel,by decide+kernel⟩
theorem ZjL{f:Addr}{fd:FuncData}{tA:Tok}(F:Fun K "bound" "bound" sBd f fd)(mA:mg "MOST_BOUND_POINTS"=some (.int 9 tA))(FMo:FnE P w K mg base "most_of" ["net"] 4 spMo)(FFc:FnE P w K mg base "first_crowded" ["net","most"] 4 spFc)(FPo:FnE P w K mg base "parts_of" ["net"] 4 spPo)(FBr:FnE P w K mg base "bar" ["net","part"] 4 spBr):FnOk P w K mg base CX0 5 f fd ["net"] spBd:=by
 refine F.ok scBd (fun vs H Q E h=>?_) (fun cdv A outer s H vs Q E hr h=>?_)
 ·obtain⟨p,n,q,ts,es,rfl,_⟩:=h
  rfl
 ·obtain⟨p,n,qa,ts,es,rfl,N,n9,q⟩:=h
  refine⟨_,Zb (Z3 (Zi Za6 (Zo Zl (pv 0) Zc (fun _ _=>rfl)) (Y4 (v:= .int 9) rfl mA ⟨_,rfl⟩) (Zp _)) Zw Zr)
   (Zb (Zm (i:=1) scBd.nd rfl (Or.inl rfl) (Z0 FMo hr (Ze (pv 0) Za)))
   (Zb (Z3 (Zi ZR (pv 1) Zc (Zp _)) (Zh (Z2 (Zu (Ze Zc (Ze Yj Za))))) Zr)
   (Zb (Zm (i:=2) scBd.nd rfl (Or.inl rfl) (pv 1))
   (Zb (Zm (i:=3) scBd.nd rfl (Or.inl rfl) (Zu (Ze Yi (Ze (Z0 FFc hr (Ze (pv 0) (Ze (pv 1) Za))) Za))))
   (Zb (ZZ PassesOwn.never rfl (ZaF (Z0 FPo hr (Ze (pv 0) Za))) (Zt (i:=4) scBd.nd rfl (Or.inl rfl))
    (Zb (Zm (i:=5) scBd.nd rfl (Or.inl rfl) (Z0 FBr hr (Ze (pv 0) (Ze (pv 4) Za))))
    (Zh (Z3 (Zi Za6 (pv 5) (pv 2) (Zp _)) (Zb (Zm (i:=2) scBd.nd rfl (Or.inl rfl) (pv 5)) (Zh (Zm (i:=3) scBd.nd rfl (Or.inl rfl) (Zu (Ze Yi (Ze (pv 4) Za)))))) Zr))))
   (Zh (Z2 (Zu (Ze (pv 2) (Ze (pv 3) Za)))))))))),?_⟩
  refine⟨_,rfl,p,_,_,_,rfl,rfl,SqT.of N.e1,rfl,_,_,rfl,rfl,_,rfl,?_⟩
  refine ZQ (fun z=>absurd (of_decide_eq_true z) (by omega)) (fun _=>?_)
  refine⟨_,rfl,p,n,qa,ts,es,rfl,N,fun H1 M s1 hM=>?_⟩
  have m0:=ZaJ hM
  refine⟨_,rfl,rfl,_,rfl,?_⟩
  refine ZQ (fun z=>?_) (fun z=>?_)
  ·have e:M=0:=V.int.inj (of_decide_eq_true z)
   exact⟨rfl,fun t H2 s2 ht=>q H2 t (Same.trans s1 s2) ⟨M,hM,.inl ⟨e,ht⟩⟩⟩
  ·have hM0:0<M:=by
    have:M≠0:=fun y=>z (decide_eq_true (by rw[y]))
    omega
   have hn:0<n:=by
    rcases Nat.eq_zero_or_pos n with y|y
    ·subst y
     rcases hM with⟨_,y⟩|⟨y,_⟩
     ·omega
     ·unfold dl at y
      cases y
    ·exact y
   refine⟨_,rfl,_,rfl,_,rfl,p,n,qa,ts,es,M,rfl,N.same s1,hM,hn,fun H2 x s2 hx=>⟨rfl,fun u0 H3 s3 hu0=>?_⟩⟩
   have s03:=Same.trans s1 (Same.trans s2 s3)
   refine⟨_,rfl,p,n,qa,ts,es,rfl,N.same s03,n9,fun H4 d s4⟨tr,h1,h2,h3⟩=>?_⟩
   have s04:=Same.trans s03 s4
   refine⟨d,rfl,⟨_,SqL.of h1⟩,Zbr (K:=K) (a:=d) (xs:=tr.map fun x=>V.ref x.1) (fun i σ G=>Same H4 G/\∃NN v v4 v5,σ=[some (.ref p),some (.int M),some (.int NN),some v,v4,v5]/\M<=NN/\(∀l∈(parts n).take i,(Zb3 es l:Int)<=NN)/\Pap G es n M NN v/\∃o,YO es n M i=(NN,o)/\PapO G es n M o v)
    ⟨Same.refl _,M,.ref u0,_,_,rfl,Int.le_refl _,(fun l hl=>by cases hl),.inl ⟨rfl,u0,x,rfl,s4 _ _ hu0,hx⟩,none,rfl,.inl ⟨rfl,u0,x,rfl,s4 _ _ hu0,hx⟩⟩ (fun i σ G _ z=>SqL.of (z.1 _ _ h1)) (fun i y σ G hy⟨sG,NN,v,v4,v5,e,hle,hall,hP,o,hO,hPO⟩=>?_) (fun σ G⟨sG,NN,v,v4,v5,e,hle,hall,hP,o,hO,hPO⟩=>?_)⟩
   ·subst e
    rw[List.getElem?_map]at hy
    cases ht:tr[i]? with
    |none=>rw[ht]at hy;cases hy
    |some z=>
     rw[ht]at hy
     cases hy
     have hpi:(parts n)[i]?=some z.2:=by rw[<-h2,List.getElem?_map,ht];rfl
     have hmem:z.2∈parts n:=List.mem_of_getElem? hpi
     obtain⟨hsub,hz3,_⟩:=parts_mem.mp hmem
     have hzl:=Y0 n _ hsub
     have htk:(parts n).take (i+1)=(parts n).take i++[z.2]:=by rw[List.take_succ,hpi];rfl
     refine⟨_,rfl,_,rfl,p,z.1,n,qa,ts,es,z.2,rfl,(N.same s04).same sG,sG _ _ (h3 z (List.mem_of_getElem? ht)),hz3,by omega,fun G1 sG1=>?_⟩
     have sA:=Same.trans sG sG1
     refine⟨_,rfl,_,rfl,_,_,rfl,rfl,_,rfl,?_⟩
     have hO':=Zfc (es:=es) (M:=M) hpi
     rw[hO]at hO'
     unfold ZcA at hO'
     refine ZQ (fun w1=>?_) (fun w1=>?_)
     ·have hgt:NN<(Zb3 es z.2:Int):=of_decide_eq_true w1
      refine⟨_,rfl,_,rfl,rfl,fun u G2 s2' hu=>?_⟩
      refine⟨Same.trans sA s2',_,_,_,_,rfl,by omega,fun l hl=>?_,.inr ⟨by omega,u,z.1,z.2,rfl,hu,s2' _ _ (sA _ _ (h3 z (List.mem_of_getElem? ht))),hmem,rfl⟩,some z.2,(by rw[hO',if_pos hgt]),.inr ⟨u,z.1,z.2,rfl,rfl,hu,s2' _ _ (sA _ _ (h3 z (List.mem_of_getElem? ht)))⟩⟩
      rw[htk]at hl
      rcases List.mem_append.mp hl with y|y
      ·have:=hall l y
       omega
      ·rw[List.mem_singleton.mp y]
       exact Int.le_refl _
     ·have hge:¬NN<(Zb3 es z.2:Int):=fun y=>w1 (decide_eq_true y)
      refine⟨sA,NN,v,_,_,rfl,hle,fun l hl=>?_,hP.same sG1,o,(by rw[hO',if_neg hge]),hPO.same sG1⟩
      rw[htk]at hl
      rcases List.mem_append.mp hl with y|y
      ·exact hall l y
      ·rw[List.mem_singleton.mp y]
       omega
   ·subst e
    rw[List.length_map,<-List.length_map (f:=(·.2)),h2]at hO
    rw[List.length_map,<-List.length_map (f:=(·.2)),h2,List.take_length]at hall
    exact⟨_,rfl,_,rfl,rfl,fun t G2 s2' ht=>q G2 t (Same.trans s04 (Same.trans sG s2')) ⟨M,hM,.inr ⟨hM0,NN,v,ht,hle,hall,hP.same s2',o,hO,hPO.same s2'⟩⟩⟩
def Zh5(C:Addr):Sp:=fun vs H _ E=>∃(p:Addr)(n:Int)(v:V),vs=[.ref p]/\H p=some (.tup [.int n,v])/\9<n/\∀H' dx,Same H H'->H' dx=none->E (.ref C) (some dx) (upd H' dx (.xd [("most",.int 9)]))
theorem Ziu{f C D fI:Addr}{fd fdI:FuncData}{tA:Tok}(F:Fun K "bound" "bound" sBd f fd)(mA:mg "MOST_BOUND_POINTS"=some (.int 9 tA))(c:RX.XCl K C D)(hi:PySem.W.findIn K (.ref C) "__init__"=some (some (.ref fI)))(hfn:PySem.W.isFn K (.ref fI)=true)
  (FI:FnOk P w K mg base CX0 3 fI fdI ["self","most"] (RX.ZaV C "most"))(hb:L2.Binds K fdI ["self","most"] [])(hm:mg "TooGreat"=some (.ref C)):
  FnOk P w K mg base (RX.CXe P w) 5 f fd ["net"] (Zh5 C):=by
 refine RX.Zhg F scBd (fun vs H Q E h=>?_) (fun cdv A outer s H vs Q E hr h=>?_)
 ·obtain⟨p,n,v,rfl,_⟩:=h
  rfl
 ·obtain⟨p,n,v,rfl,hp,n9,q⟩:=h
  refine⟨_,Zb (Z3 (PT.nox (Zi Za6 (Zo Zl (pv 0) Zc (fun _ _=>rfl)) (Y4 (v:= .int 9) rfl mA ⟨_,rfl⟩) (Zp _))) (Zh (RX.J7 c hi hfn FI hr hb rfl hm (Ze (Y4 (v:= .int 9) rfl mA ⟨_,rfl⟩) Za) rfl rfl rfl (fun _ _ h=>h))) Zr) Zw,?_⟩
  refine⟨_,rfl,p,_,_,_,rfl,rfl,SqT.of hp,rfl,_,_,rfl,rfl,_,rfl,?_⟩
  refine ZQ (fun _=>?_) (fun z=>absurd (decide_eq_true n9) z)
  exact⟨_,rfl,fun dx hdx=>q H dx (Same.refl _) hdx⟩
abbrev sTg:Stmt:=inClass (top 5) 0
theorem ZkS:Zx ["self","most"] ["self","most"] (Zd sTg):=⟨rfl,rfl,rfl,by decide+kernel,rfl,by decide+kernel,by decide+kernel⟩
theorem Zh9{f C D:Addr}{fd:FuncData}(F:Fun K "__init__" "TooGreat.__init__" sTg f fd)(c:RX.XCl K C D)(hn:PySem.W.findIn K (.ref C) "most"=some none):FnOk P w K mg base CX0 1 f fd ["self","most"] (RX.ZaV C "most"):=by
 refine F.ok ZkS (fun vs H Q E h=>?_) (fun cdv A outer s H vs Q E hr h=>?_)
 ·obtain⟨e,fv,y,rfl,_⟩:=h
  rfl
 ·obtain⟨e,fv,y,rfl,he,q⟩:=h
  refine⟨_,Zh (RX.ZgC (pv 0) (pv 1) rfl),?_⟩
  exact⟨_,rfl,_,rfl,e,C,D,fv,rfl,he,c,hn,fun dx h1 h2=>q dx h1 h2⟩
end
end My
set_option maxHeartbeats 1000000
namespace L2
open PySem PySem.Spec PyProof.Rows
structure MeE(P:Program)(w:World)(K:PySem.W.Frag)(mg:Str->Option Value)(base:Heap)(C:Addr)(m:Str)(ps:List Str)(k:Nat)(sp:Sp):Prop where
 ex:∃f fd,FnOk P w K mg base CX0 k f fd ps sp/\ZdL K C m f/\Cls K C/\Binds K fd ps []
theorem Zjs{X:Cx}{C:Addr}{m:Str}{ps:List Str}{k:Nat}{sp:Sp}{o e:Expr}{es:List Expr}{ta:TE}{t:TA}{apos pos:Pos}{pl:Sem Bool}(F:MeE X.prog X.w X.K X.mg X.base C m ps k sp)(hr:Room k X.A)(he:PE X o ta)(ha:PA X (e::es) t)
  (h1:Yw e=true:=by rfl)(h2:es.all Yw=true:=by rfl)
  (ht:eval (.Call (.Attribute o m apos) (e::es) [] pos) X.env=(do
   let ov<-eval o X.env
   standAt apos.atName
   let(f,first)<-holding [ov] (getMethod ov m pl)
   callWith pos f first (backTo pos (starEach (e::es) X.env)) (backToKw pos (keywordEach [] X.env))):=by rfl):
  PE X (.Call (.Attribute o m apos) (e::es) [] pos) (Zh3 C m sp [] E0 ta t):=
 let⟨_,_,a,b,c,d⟩:=F.ex;Zcl (pl:=pl) he c b a hr d .nil Zf7 ha (Yt h1) (ZaS h2) ht
end L2
namespace My
open PySem L2
def Zav(ls:List Nat)(i:Nat):List Nat:=(List.range i).filter fun x=> !ls.contains x
theorem ZfK(ls:List Nat)(i:Nat):(Zav ls i).length<=i:=Nat.le_trans (List.length_filter_le _ _) (by rw[List.length_range];exact Nat.le_refl _)
theorem ZgN{ls:List Nat}{i:Nat}(h:¬i∈ls):Zav ls (i+1)=Zav ls i++[i]:=by
 unfold Zav
 rw[List.range_succ,List.filter_append,List.filter_cons,if_pos (by simpa using h)]
 rfl
theorem ZfJ{ls:List Nat}{i:Nat}(h:i∈ls):Zav ls (i+1)=Zav ls i:=by
 unfold Zav
 rw[List.range_succ,List.filter_append,List.filter_cons,if_neg (by simpa using h)]
 simp
theorem J9{l:List Nat}{i x:Nat}(h:l[i]?=some x):l.take (i+1)=l.take i++[x]:=by rw[List.take_add_one,h];rfl
theorem ZcJ{l:List Nat}{i:Nat}{v:V}(h:(nl l)[i]?=some v):∃x:Nat,l[i]?=some x/\v= .int (x:Int):=by
 unfold nl at h
 rw[List.getElem?_map]at h
 cases q:l[i]? with
 |none=>rw[q]at h;cases h
 |some x=>rw[q]at h;exact⟨x,rfl,(Option.some.inj h).symm⟩
def prs(ls:List Nat):List (Key×V):=ls.map fun x:Nat=>((Sum.inl (x:Int):Key),V.bl true)
theorem Zfw(ls:List Nat)(x:Nat):(ZX (ZO (prs ls)) (Sum.inl (x:Int))).isSome=true↔x∈ls:=by
 rw[Zb8]
 constructor
 ·rintro⟨p,hp,e⟩
  obtain⟨y,hy,rfl⟩:=List.mem_map.mp hp
  have:=Sum.inl.inj e
  rw[show x=y by omega]
  exact hy
 ·exact fun h=>⟨_,List.mem_map.mpr ⟨x,h,rfl⟩,rfl⟩
def Zcx:Expr->Scope
 | .ListComp _ _ s _=>s
 | .Call _ [e] _ _=>Zcx e
 |_=>{kind:= .function,names:=[],isGenerator:=false,isCoroutine:=false}
def Prs(H:Hp)(ys:List V)(ps:List (Key×V)):Prop:=ys.length=ps.length/\∀(i:Nat) y pr,ys[i]?=some y->ps[i]?=some pr->∃b,y= .ref b/\H b=some (.tup [kV pr.1,pr.2])
theorem Prs.same{H H':Hp}{ys:List V}{ps:List (Key×V)}(h:Prs H ys ps)(s:Same H H'):Prs H' ys ps:=⟨h.1,fun i y pr a b=>let⟨c,d,e⟩:=h.2 i y pr a b;⟨c,d,s _ _ e⟩⟩
theorem Prs.snoc{H:Hp}{ys:List V}{ps:List (Key×V)}{b:Addr}{k:Key}{v:V}(h:Prs H ys ps)(hb:H b=some (.tup [kV k,v])):Prs H (ys++[.ref b]) (ps++[(k,v)]):=by
 refine⟨by rw[List.length_append,List.length_append,h.1];rfl,fun i y pr e1 e2=>?_⟩
 by_cases hi:i<ys.length
 ·rw[List.getElem?_append_left hi]at e1
  rw[List.getElem?_append_left (by rw[<-h.1];exact hi)]at e2
  exact h.2 i y pr e1 e2
 ·have:=(List.getElem?_eq_some_iff.mp e1).1
  rw[List.length_append]at this
  have hi2:i=ys.length:=by simp only[List.length_cons,List.length_nil]at this;omega
  subst hi2
  rw[List.getElem?_append_right (Nat.le_refl _),Nat.sub_self]at e1
  rw[h.1,List.getElem?_append_right (Nat.le_refl _),Nat.sub_self]at e2
  cases e1
  cases e2
  exact⟨b,rfl,hb⟩
section
variable{P:Program}{w:World}{K:PySem.W.Frag}{mg:Str->Option Value}{base:Heap}
abbrev sNb:Stmt:=top 18
abbrev nNb:List Str:=["many","row","out"]
abbrev Zlz:Scope:=Zcx (Ze8 (Jl 18 0))
abbrev Zly:Scope:=Zcx (Ze8 (Jl 18 1))
theorem scNb:Zx nNb ["many","row"] (Zd sNb):=⟨rfl,rfl,rfl,by decide+kernel,rfl,by decide+kernel,by decide+kernel⟩
theorem ZjU:(["tint"]:List Str).Nodup:=by decide+kernel
theorem ZjT:(["tint","out"]:List Str).Nodup:=by decide+kernel
theorem ZiM{f:Addr}{cdv:Value}{A:Around}{outer:List Env}{s:Shared}{H:Hp}{E:XK}:
  Blk (ZF CX0 P w K mg base nNb "not_barred" (Zd sNb) f cdv A outer s H E).nox Zlz [] ["tint"] [none]:=by
 refine⟨rfl,rfl,by decide+kernel,by decide+kernel,fun p hp=>(by cases hp),fun y hy e=>?_,trivial⟩
 have hy':y∈[((PySem.Str.ofString ".0":Str),NameKind.local),(PySem.Str.ofString "tint",.local)]:=hy
 simp only[List.mem_cons,List.not_mem_nil,or_false]at hy'
 rcases hy' with rfl|rfl<;>first|rfl|cases e
theorem ZiL{f:Addr}{cdv:Value}{A:Around}{outer:List Env}{s:Shared}{H:Hp}{E:XK}:
  Blk (ZF CX0 P w K mg base nNb "not_barred" (Zd sNb) f cdv A outer s H E).nox Zly [("out",s.heap.objs.size+1)] ["tint","out"] [none,some 2]:=by
 refine⟨rfl,rfl,by decide+kernel,by decide+kernel,fun p hp=>?_,fun y hy e=>?_,⟨rfl,rfl,rfl⟩,trivial⟩
 ·rw[List.mem_singleton.mp hp]
  rfl
 ·have hy':y∈[((PySem.Str.ofString ".0":Str),NameKind.local),(PySem.Str.ofString "tint",.local),(PySem.Str.ofString "out",.free)]:=hy
  simp only[List.mem_cons,List.not_mem_nil,or_false]at hy'
  rcases hy' with rfl|rfl|rfl<;>first|rfl|cases e
def spNb:Sp:=fun vs H Q _=>∃(m:Nat)(r:Addr)(ls:List Nat),vs=[.int (m:Int),.ref r]/\H r=some (.tup (nl ls))/\m<=1000/\ls.length<=1000/\∀H' t,Same H H'->H' t=some (.tup (nl (Zav ls m)))->Q (.ref t) H'
theorem Zj5{f:Addr}{fd:FuncData}(F:Fun K "not_barred" "not_barred" sNb f fd)(T:Bi mg):FnOk P w K mg base CX0 1 f fd ["many","row"] spNb:=by
 refine F.ok scNb (fun vs H Q E h=>?_) (fun cdv A outer s H vs Q E hr h=>?_)
 ·obtain⟨m,r,ls,rfl,_⟩:=h
  rfl
 ·obtain⟨m,r,ls,rfl,hr1,hm,hls,q⟩:=h
  have hu:=Zbn hr
  refine⟨_,Zb (Zm (i:=2) scNb.nd rfl (Or.inr rfl) (Z9 (Zb0 hr) rfl T.dict Zgp (Ze (JJ ZiM rfl (pv 1) (ZJ 1) (fun C fp s H=>Zt (i:=0) ZjU rfl (Or.inl rfl) (hf:=Or.inr rfl)) (fun C fp s H=>YK)
    (fun C fp s H=>Zu (Ze (pv 0) (Ze ZcF Za)))) Za)))
   (Zh (Z2 (Z9 ZA rfl T.tuple Yh (Ze (Zau ZiL rfl rfl T.range (Ze (pv 0) Za) (ZN (ZJ 0) Yc) rfl (fun C fp s H=>Zt (i:=0) ZjT rfl (Or.inl rfl) (hf:=Or.inr rfl))
    (fun C fp s H=>Yv (Zdx (ZeD hu (pv 0) (pv 1)))) (fun C fp s H=>pv 0)) Za)))),?_⟩
  refine⟨_,rfl,r,_,rfl,SqT.of hr1,by rw[Z8];omega,fun i ys σ G=>Same H G/\Prs G ys (prs (ls.take i))/\∃v0,σ=[v0],⟨Same.refl H,⟨rfl,fun i y pr e=>by cases e⟩,none,rfl⟩,fun i ys σ G hi⟨e1,e2,_⟩=>⟨SqT.of (e1 _ _ hr1),by rw[e2.1];unfold prs;rw[List.length_map,List.length_take];omega⟩,fun i x ys σ G hx⟨e1,e2,v0,e3⟩=>?_,fun ys σ G⟨e1,e2,_⟩ l G2 s2 hl=>?_⟩
  ·subst e3
   obtain⟨y,hy,rfl⟩:=ZcJ hx
   refine⟨_,rfl,rfl,fun b G2 s2 hb=>⟨Same.trans e1 s2,?_,_,rfl⟩⟩
   rw[J9 hy]
   unfold prs
   rw[List.map_append]
   exact(e2.same s2).snoc (k:=Sum.inl (y:Int)) hb
  ·rw[Z8,List.take_length]at e2
   have e2':=e2.same s2
   refine⟨l,ys,prs ls,rfl,SqL.of hl,e2'.1,by rw[e2'.1];unfold prs;rw[List.length_map];exact hls,e2'.2,fun d G3 s3 hdn hd=>?_⟩
   refine⟨_,rfl,m,rfl,by omega,fun i ys σ G=>Same G3 G/\ys=nl (Zav ls i)/\∃v0,σ=[v0,some (.ref d)],⟨Same.refl _,rfl,none,rfl⟩,fun i ys σ G hi⟨f1,f2,_⟩=>by rw[f2,Z8];exact ZfK _ _,fun i ys σ G hi⟨f1,f2,v0,f3⟩=>?_,fun ys σ G⟨f1,f2,_⟩ l2 G4 s4 hl2=>?_⟩
   ·subst f2 f3
    rw[Int.zero_add]
    refine⟨_,rfl,_,rfl,d,_,rfl,DGet.k (k:=Sum.inl (i:Int)) (f1 _ _ hd),_,rfl,?_⟩
    refine ZQ (fun hh=>⟨_,rfl,f1,?_,_,rfl⟩) (fun hh=>⟨f1,?_,_,rfl⟩)
    ·rw[ZgN (fun z=>by rw[(Zfw ls i).mpr z]at hh;cases hh),<-Je]
    ·rw[ZfJ]
     refine(Zfw ls i).mp ?_
     cases z:(ZX (ZO (prs ls)) (Sum.inl (i:Int))).isSome with
     |true=>rfl
     |false=>rw[z]at hh;exact absurd rfl hh
   ·subst f2
    refine⟨l2,_,rfl,.inl hl2,fun t G5 s5 ht=>q G5 t (Same.trans (Same.trans (Same.trans e1 s2) s3) (Same.trans (Same.trans f1 s4) s5)) ht⟩
end
end My
set_option maxHeartbeats 1000000
namespace My
open PySem L2 Cs
inductive LfR(H:Hp):List (Key×V)->List (Nat×List Nat)->Prop
 |nil:LfR H [] []
 |cons {n:Nat} {ls:List Nat} {a:Addr} {kvs:List (Key×V)} {lf:List (Nat×List Nat)}:H a=some (.tup (nl ls))->LfR H kvs lf->LfR H ((Sum.inl (n:Int),.ref a)::kvs) ((n,ls)::lf)
def Yz(H H':Hp):Prop:=∀a xs,H a=some (.tup xs)->H' a=some (.tup xs)
theorem Same.keepT{H H':Hp}(s:Same H H'):Yz H H':=fun a xs e=>s a _ e
theorem LfR.keep{H H':Hp}{kvs:List (Key×V)}{lf:List (Nat×List Nat)}(h:LfR H kvs lf)(k:Yz H H'):LfR H' kvs lf:=by
 induction h with
 |nil=>exact .nil
 |cons e _ ih=>exact .cons (k _ _ e) ih
theorem LfR.len{H:Hp}{kvs:List (Key×V)}{lf:List (Nat×List Nat)}(h:LfR H kvs lf):kvs.length=lf.length:=by
 induction h with
 |nil=>rfl
 |cons _ _ ih=>rw[List.length_cons,List.length_cons,ih]
theorem LfR.keys{H:Hp}{kvs:List (Key×V)}{lf:List (Nat×List Nat)}(h:LfR H kvs lf):kvs.map (·.1)=(lf.map fun p=>(p.1:Int)).map Sum.inl:=by
 induction h with
 |nil=>rfl
 |cons _ _ ih=>rw[List.map_cons,List.map_cons,List.map_cons,ih]
theorem ZdE{n k:Nat}(h:¬n=k):¬(Sum.inl (n:Int):Key)=Sum.inl (k:Int):=fun z=>h (by have:=Sum.inl.inj z;omega)
theorem LfR.val{H:Hp}{kvs:List (Key×V)}{lf:List (Nat×List Nat)}(h:LfR H kvs lf)(k:Nat):(ZX kvs (Sum.inl (k:Int))=none/\∀p∈lf,p.1≠k)\/∃a ls,ZX kvs (Sum.inl (k:Int))=some (.ref a)/\(k,ls)∈lf/\H a=some (.tup (nl ls)):=by
 induction h with
 |nil=>exact .inl ⟨rfl,fun p hp=>by cases hp⟩
 |@cons n ls a kvs lf e _ ih=>
  by_cases z:n=k
  ·subst z
   exact .inr ⟨a,ls,Yf rfl,.head _,e⟩
  ·rw[Yg (ZdE z)]
   rcases ih with⟨h1,h2⟩|⟨b,l2,h1,h2,h3⟩
   ·refine .inl ⟨h1,fun p hp=>?_⟩
    rcases List.mem_cons.mp hp with rfl|hp
    ·exact z
    ·exact h2 p hp
   ·exact .inr ⟨b,l2,h1,.tail _ h2,h3⟩
theorem Zed{lf:List (Nat×List Nat)}(hn:(lf.map (·.1)).Nodup):∀{k:Nat}{l1 l2:List Nat},(k,l1)∈lf->(k,l2)∈lf->l1=l2:=by
 induction lf with
 |nil=>intro k l1 l2 h;cases h
 |cons p lf ih=>
  intro k l1 l2 h1 h2
  obtain⟨a,b⟩:=List.nodup_cons.mp hn
  rcases List.mem_cons.mp h1 with e1|m1
  ·rcases List.mem_cons.mp h2 with e2|m2
   ·rw[<-e1]at e2;exact(Prod.mk.inj e2).2.symm
   ·exact absurd (List.mem_map.mpr ⟨_,m2,by rw[<-e1]⟩) a
  ·rcases List.mem_cons.mp h2 with e2|m2
   ·exact absurd (List.mem_map.mpr ⟨_,m1,by rw[<-e2]⟩) a
   ·exact ih b m1 m2
theorem LfR.drop{H:Hp}{kvs:List (Key×V)}{lf:List (Nat×List Nat)}(h:LfR H kvs lf)(k:Nat):LfR H (YN kvs (Sum.inl (k:Int))) (lf.filter fun p=>p.1 !=k):=by
 induction h with
 |nil=>exact .nil
 |@cons n ls a kvs lf e _ ih=>
  by_cases z:n=k
  ·subst z
   rw[ZeP rfl,List.filter_cons,if_neg (by simp)]
   exact ih
  ·rw[ZeQ (ZdE z),List.filter_cons,if_pos (by simpa using z)]
   exact .cons e ih
theorem LfR.put{H:Hp}{kvs:List (Key×V)}{lf:List (Nat×List Nat)}(h:LfR H kvs lf){k:Nat}{b:Addr}{ls:List Nat}(hb:H b=some (.tup (nl ls)))(hv:(ZX kvs (Sum.inl (k:Int))).isSome=true):
  LfR H (putK kvs (Sum.inl (k:Int)) (.ref b)) (lf.map fun p=>if p.1=k then(p.1,ls)else p):=by
 unfold putK
 rw[YH,if_pos hv]
 clear hv
 induction h with
 |nil=>exact .nil
 |@cons n l a kvs lf e _ ih=>
  rw[List.map_cons,List.map_cons]
  by_cases z:n=k
  ·subst z
   rw[if_pos rfl,if_pos rfl]
   exact .cons hb ih
  ·rw[if_neg (ZdE z),if_neg z]
   exact .cons e ih
theorem LfR.at{H:Hp}{kvs:List (Key×V)}{lf:List (Nat×List Nat)}(h:LfR H kvs lf):∀{i:Nat}{p:Nat×List Nat},lf[i]?=some p->∃a,kvs[i]?=some (Sum.inl (p.1:Int),.ref a)/\H a=some (.tup (nl p.2)):=by
 induction h with
 |nil=>intro i p h;cases h
 |@cons n l a kvs lf e _ ih=>
  intro i p h
  cases i with
  |zero=>cases h;exact⟨a,rfl,e⟩
  |succ i=>exact ih h
def nar(lf:List (Nat×List Nat))(t x:Nat)(S:List Nat):List (Nat×List Nat):=(lf.filter fun p=>p.1 !=t).map fun p=>(p.1,if S.contains p.1 then p.2.filter (fun y=>y !=x)else p.2)
theorem ZgP(lf:List (Nat×List Nat))(t x:Nat):nar lf t x []=lf.filter fun p=>p.1 !=t:=by
 unfold nar
 conv=>rhs;rw[<-List.map_id (lf.filter fun p=>p.1 !=t)]
 exact List.map_congr_left fun p _=>rfl
theorem ZfM{lf:List (Nat×List Nat)}(hn:(lf.map (·.1)).Nodup)(t x:Nat)(S:List Nat):((nar lf t x S).map (·.1)).Nodup:=by
 unfold nar
 rw[List.map_map]
 show((lf.filter fun p=>p.1 !=t).map fun p=>p.1).Nodup
 rw[List.nodup_iff_pairwise_ne]at hn⊢
 rw[List.pairwise_map]at hn⊢
 exact hn.filter _
theorem ZgO{lf:List (Nat×List Nat)}(hn:(lf.map (·.1)).Nodup){t x y:Nat}{S ls:List Nat}(h:(y,ls)∈nar lf t x S):
  ((nar lf t x S).map fun p=>if p.1=y then(p.1,ls.filter fun z=>z !=x)else p)=nar lf t x (S++[y]):=by
 have hu:∀p∈nar lf t x S,p.1=y->p.2=ls:=fun p hp e=>Zed (ZfM hn t x S) (k:=y) (by rw[<-e];exact hp) h
 unfold nar at hu⊢
 rw[List.map_map]
 refine List.map_congr_left fun p hp=>?_
 have hp2:=hu _ (List.mem_map.mpr ⟨p,hp,rfl⟩)
 show(if p.1=y then(p.1,_)else _)=(p.1,_)
 by_cases e:p.1=y
 ·rw[if_pos e]
  have h2:=hp2 e
  have h3:(if S.contains p.1 then p.2.filter (fun z=>z !=x)else p.2)=ls:=h2
  have hc:(S++[y]).contains p.1=true:=by rw[List.contains_iff_mem,e];exact List.mem_append_right _ (.head _)
  rw[if_pos hc,<-h3]
  split
  ·rw[List.filter_filter]
   refine congrArg _ (List.filter_congr fun z _=>by simp)
  ·rfl
 ·rw[if_neg e]
  have hc:(S++[y]).contains p.1=S.contains p.1:=by
   rw[Bool.eq_iff_iff,List.contains_iff_mem,List.contains_iff_mem,List.mem_append,List.mem_singleton]
   exact⟨fun z=>z.resolve_right e,.inl⟩
  rw[hc]
theorem ZfL{lf:List (Nat×List Nat)}{t x y:Nat}{S:List Nat}(h:∀p∈nar lf t x S,p.1=y->¬x∈p.2):nar lf t x S=nar lf t x (S++[y]):=by
 unfold nar at h⊢
 refine List.map_congr_left fun p hp=>?_
 have hp2:=h _ (List.mem_map.mpr ⟨p,hp,rfl⟩)
 by_cases e:p.1=y
 ·have h2:=hp2 e
  have hc:(S++[y]).contains p.1=true:=by rw[List.contains_iff_mem,e];exact List.mem_append_right _ (.head _)
  rw[if_pos hc]
  split
  ·rfl
  ·next hS=>
   have h3:¬x∈p.2:=by
    have:¬x∈(if S.contains p.1 then p.2.filter (fun z=>z !=x)else p.2):=h2
    rw[if_neg hS]at this
    exact this
   rw[List.filter_eq_self.mpr fun z hz=>by simp only[bne_iff_ne];exact fun q=>h3 (q▸hz)]
 ·have hc:(S++[y]).contains p.1=S.contains p.1:=by
   rw[Bool.eq_iff_iff,List.contains_iff_mem,List.contains_iff_mem,List.mem_append,List.mem_singleton]
   exact⟨fun z=>z.resolve_right e,.inl⟩
  rw[hc]
def YA(es:List (Nat×Nat))(k:Nat):List Nat:=ats es (es.getD k (0,0)).1++ats es (es.getD k (0,0)).2
theorem Zex{es:List (Nat×Nat)}{x j:Nat}:j∈ats es x↔j<es.length/\(x=(es.getD j (0,0)).1\/x=(es.getD j (0,0)).2):=by
 unfold ats
 rw[List.mem_filter,List.mem_range]
 exact and_congr_right fun _=>atB_iff
theorem ZfI{es:List (Nat×Nat)}{k j:Nat}:j∈YA es k↔j<es.length/\mtB es k j=true:=by
 unfold YA mtB
 rw[List.mem_append,Zex,Zex]
 simp only[Bool.or_eq_true,beq_iff_eq]
 constructor
 ·rintro(⟨h,e|e⟩|⟨h,e|e⟩)
  ·exact⟨h,.inl (.inl (.inl e))⟩
  ·exact⟨h,.inl (.inl (.inr e))⟩
  ·exact⟨h,.inl (.inr e)⟩
  ·exact⟨h,.inr e⟩
 ·rintro⟨h,((e|e)|e)|e⟩
  ·exact .inl ⟨h,.inl e⟩
  ·exact .inl ⟨h,.inr e⟩
  ·exact .inr ⟨h,.inl e⟩
  ·exact .inr ⟨h,.inr e⟩
theorem Zey(es:List (Nat×Nat))(x:Nat):(ats es x).length<=es.length:=Nat.le_trans (List.length_filter_le _ _) (by rw[List.length_range];exact Nat.le_refl _)
theorem ZgQ{es:List (Nat×Nat)}{bs:List (List Nat)}{m:Nat}{tl:Tl}{t x:Nat}(hl:tl.length=es.length)(ht:t<tl.length)(hb:tl.getD t none=none):nar (lfs es bs m tl) t x (YA es t)=lfs es bs m (tl.set t (some x)):=by
 rw[ZgY ht hb]
 unfold nar
 refine List.map_congr_left fun p hp=>?_
 obtain⟨k,hk,e⟩:=List.mem_map.mp (List.mem_filter.mp hp).1
 have hk2:p.1<es.length:=by rw[<-e,<-hl];exact(bare_mem.mp hk).1
 have hc:(YA es t).contains p.1=mtB es t p.1:=by
  rw[Bool.eq_iff_iff,List.contains_iff_mem,ZfI]
  exact⟨fun h=>h.2,fun h=>⟨hk2,h⟩⟩
 rw[hc]
theorem Zi2(es:List (Nat×Nat))(bs:List (List Nat))(m:Nat)(tl:Tl):((lfs es bs m tl).map (·.1)).Nodup:=by
 unfold lfs
 rw[List.map_map]
 show((bare tl).map fun k=>k).Nodup
 rw[List.map_id']
 exact Zev tl
def Nrs(H:Hp)(l:Addr)(es:List (Nat×Nat)):Prop:=∃xs,H l=some (.lst xs)/\xs.length=es.length/\∀k,k<es.length->∃a,xs[k]?=some (.ref a)/\H a=some (.tup (nl (YA es k)))
theorem Nrs.same{H H':Hp}{l:Addr}{es:List (Nat×Nat)}(h:Nrs H l es)(s:∀b o,H b=some o->(b=l\/∃xs,o= .tup xs)->H' b=some o):Nrs H' l es:=
 let⟨xs,a,b,c⟩:=h;⟨xs,s _ _ a (.inl rfl),b,fun k hk=>let⟨d,e,f⟩:=c k hk;⟨d,e,s _ _ f (.inr ⟨_,rfl⟩)⟩⟩
end My
set_option maxHeartbeats 1000000
namespace My
open PySem L2 Cs
theorem Zft(x v:V):Y5 "most" v [(("near":Str),x)]=[(("near":Str),x),("most",v)]:=by
 unfold Y5
 rw[if_neg (by decide+kernel)]
 rfl
theorem Zdw(x y v:V):Y5 "looked" v [(("near":Str),x),("most",y)]=[(("near":Str),x),("most",y),("looked",v)]:=by
 unfold Y5
 rw[if_neg (by decide+kernel)]
 unfold Y5
 rw[if_neg (by decide+kernel)]
 rfl
theorem Za5(x y u v:V):Y5 "looked" v [(("near":Str),x),("most",y),("looked",u)]=[(("near":Str),x),("most",y),("looked",v)]:=by
 unfold Y5
 rw[if_neg (by decide+kernel)]
 unfold Y5
 rw[if_neg (by decide+kernel)]
 unfold Y5
 rw[if_pos rfl]
structure SrC(K:PySem.W.Frag)(C:Addr):Prop where
 cl:Cls K C
 n1:NoAttr K C "near"
 n2:NoAttr K C "most"
 n3:NoAttr K C "looked"
section
variable{P:Program}{w:World}{K:PySem.W.Frag}{mg:Str->Option Value}{base:Heap}{cS:Addr}
abbrev sIn:Stmt:=inClass (top 19) 0
abbrev nIn:List Str:=["self","net","most"]
abbrev inS:Scope:=Zcx (Ze8 ((Zj sIn).getD 0 (.Pass ⟨0,0,0,0⟩)))
theorem ZkU:Zx nIn ["self","net","most"] (Zd sIn):=⟨rfl,rfl,rfl,by decide+kernel,rfl,by decide+kernel,by decide+kernel⟩
theorem Zlt:(["ends","net"]:List Str).Nodup:=by decide+kernel
theorem Zkz{f:Addr}{cdv:Value}{A:Around}{outer:List Env}{s:Shared}{H:Hp}{E:XK}:
  Blk (ZF CX0 P w K mg base nIn "Search.__init__" (Zd sIn) f cdv A outer s H E).nox inS [("net",s.heap.objs.size+1)] ["ends","net"] [none,some 1]:=by
 refine⟨rfl,rfl,by decide+kernel,by decide+kernel,fun p hp=>?_,fun y hy e=>?_,⟨rfl,rfl,rfl⟩,trivial⟩
 ·rw[List.mem_singleton.mp hp]
  rfl
 ·have hy':y∈[((PySem.Str.ofString ".0":Str),NameKind.local),(PySem.Str.ofString "ends",.local),(PySem.Str.ofString "ties_at",.globalImplicit),(PySem.Str.ofString "net",.free)]:=hy
  simp only[List.mem_cons,List.not_mem_nil,or_false]at hy'
  rcases hy' with rfl|rfl|rfl|rfl<;>first|rfl|cases e
def Zje(cS:Addr):Sp:=fun vs H Q _=>∃(sf p dx:Addr)(m:Int)(n:Nat)(q:Addr)(ts:List V)(es:List (Nat×Nat)),vs=[.ref sf,.ref p,.int m]/\H sf=some (.ins cS dx [])/\NetZ H p n q ts es/\
 ∀H' l,(∀b o,b≠sf->H b=some o->H' b=some o)->H' sf=some (.ins cS dx [("near",.ref l),("most",.int m),("looked",.int 0)])->Nrs H' l es->Q .non H'
theorem ZjB{f:Addr}{fd:FuncData}(F:Fun K "__init__" "Search.__init__" sIn f fd)(T:Bi mg)(S:SrC K cS)(FA:FnE P w K mg base "ties_at" ["net","point"] 1 spAt):FnOk P w K mg base CX0 2 f fd ["self","net","most"] (Zje cS):=by
 refine F.ok ZkU (fun vs H Q E h=>?_) (fun cdv A outer s H vs Q E hr h=>?_)
 ·obtain⟨sf,p,dx,m,n,q,ts,es,rfl,_⟩:=h
  rfl
 ·obtain⟨sf,p,dx,m,n,qa,ts,es,rfl,hs,N,q⟩:=h
  refine⟨_,Zb (Zdy (pv 0) (JJ Zkz rfl (Zo Zl (pv 1) Zc (fun _ _=>rfl)) (Y6 (ZJ 1) (YB _)) (fun C fp s H=>Zt (i:=0) Zlt rfl (Or.inl rfl) (hf:=Or.inr rfl)) (fun C fp s H=>YK)
    (fun C fp s H=>Zq JW (Z0 FA hr (Ze (pv 1) (Ze (Zo (Ji (K:=K) rfl) (pv 0) Zc (fun _ _=>rfl)) Za))) (Z0 FA hr (Ze (pv 1) (Ze (Zo (Ji (K:=K) rfl) (pv 0) Zc (fun _ _=>rfl)) Za))))) rfl)
   (Zb (Zdy (pv 0) (pv 2) rfl) (Zh (Zdy (pv 0) Zc rfl))),?_⟩
  have hlen:=N.len
  have hl2:=N.l200
  refine⟨_,rfl,p,_,_,_,rfl,rfl,SqT.of N.e1,rfl,qa,ts,rfl,SqT.of N.e2,by omega,fun i ys σ G=>Same H G/\ys.length=i/\(∀k,k<i->∃a,ys[k]?=some (.ref a)/\G a=some (.tup (nl (YA es k))))/\∃v0,σ=[v0,some (.ref p)],⟨Same.refl H,rfl,fun k hk=>absurd hk (Nat.not_lt_zero _),none,rfl⟩,fun i ys σ G hi⟨e1,e2,_⟩=>⟨SqT.of (e1 _ _ N.e2),by omega⟩,fun i y ys σ G hx⟨e1,e2,e4,v0,e3⟩=>?_,fun ys σ G⟨e1,e2,e4,_⟩ l G2 s2 hl=>?_⟩
  ·subst e3
   obtain⟨a,rfl,ha⟩:=N.tie i y hx
   have ha2:=e1 _ _ ha
   have N1:=N.same e1
   refine⟨_,rfl,_,rfl,a,_,_,_,rfl,rfl,SqT.of ha2,rfl,p,n,qa,ts,es,_,rfl,N1,fun G1 t1 s1 h1=>?_⟩
   refine⟨_,rfl,_,rfl,a,_,_,_,rfl,rfl,SqT.of (s1 _ _ ha2),rfl,p,n,qa,ts,es,_,rfl,N1.same s1,fun G2 t2 s2 h2=>?_⟩
   refine⟨t1,t2,_,_,rfl,rfl,s2 _ _ h1,h2,?_,fun t3 G3 s3 h3=>⟨Same.trans e1 (Same.trans s1 (Same.trans s2 s3)),by rw[List.length_append,e2];rfl,fun k hk=>?_,_,rfl⟩⟩
   ·rw[Z8,Z8]
    have:=Zey es (es.getD i (0,0)).1
    have:=Zey es (es.getD i (0,0)).2
    omega
   ·by_cases z:k<i
    ·obtain⟨b,b1,b2⟩:=e4 k z
     exact⟨b,by rw[List.getElem?_append_left (by omega)];exact b1,s3 _ _ (s2 _ _ (s1 _ _ b2))⟩
    ·have z2:k=i:=by omega
     subst z2
     refine⟨t3,by rw[List.getElem?_append_right (by omega),e2,Nat.sub_self];rfl,?_⟩
     rw[h3]
     unfold YA nl
     rw[List.map_append]
  ·have hs2:=s2 _ _ (e1 _ _ hs)
   refine⟨_,rfl,sf,cS,dx,[],rfl,hs2,S.cl,S.n1,by decide,?_⟩
   refine⟨_,rfl,_,rfl,sf,cS,dx,[("near",.ref l)],rfl,Zf,S.cl,S.n2,(by show 1<1000;decide),?_⟩
   rw[Zft,Zca]
   refine⟨_,rfl,sf,cS,dx,[("near",.ref l),("most",.int m)],rfl,Zf,S.cl,S.n3,(by show 2<1000;decide),?_⟩
   rw[Zdw,Zca]
   have hls:l≠sf:=fun z=>by rw[z,hs2]at hl;cases hl
   have ok:∀b o,b≠sf->H b=some o->upd G2 sf (.ins cS dx [("near",.ref l),("most",.int m),("looked",.int 0)]) b=some o:=fun b o hb e=>by rw[Zg hb];exact s2 _ _ (e1 _ _ e)
   refine q _ l ok Zf ⟨ys,by rw[Zg hls];exact hl,by omega,fun k hk=>?_⟩
   obtain⟨a,a1,a2⟩:=e4 k (by omega)
   refine⟨a,a1,?_⟩
   have a3:=s2 _ _ a2
   rw[Zg fun z=>by rw[z,hs2]at a3;cases a3]
   exact a3
abbrev sNr:Stmt:=inClass (top 19) 1
abbrev nNr:List Str:=["self","left","tie","tint","rest","near"]
def nrS:List Stmt->Scope
 |[.If _ [.Assign _ e _] _ _]=>Zcx e
 |_=>{kind:= .function,names:=[],isGenerator:=false,isCoroutine:=false}
abbrev Zli:Scope:=nrS (Zhj ((Zj sNr).getD 2 (.Pass ⟨0,0,0,0⟩)))
theorem scNr:Zx nNr ["self","left","tie","tint"] (Zd sNr):=⟨rfl,rfl,rfl,by decide+kernel,rfl,by decide+kernel,by decide+kernel⟩
theorem Zlo:(["kept","tint"]:List Str).Nodup:=by decide+kernel
theorem Zku{f:Addr}{cdv:Value}{A:Around}{outer:List Env}{s:Shared}{H:Hp}{E:XK}:
  Blk (ZF CX0 P w K mg base nNr "Search.narrowed" (Zd sNr) f cdv A outer s H E).nox Zli [("tint",s.heap.objs.size+1)] ["kept","tint"] [none,some 3]:=by
 refine⟨rfl,rfl,by decide+kernel,by decide+kernel,fun p hp=>?_,fun y hy e=>?_,⟨rfl,rfl,rfl⟩,trivial⟩
 ·rw[List.mem_singleton.mp hp]
  rfl
 ·have hy':y∈[((PySem.Str.ofString ".0":Str),NameKind.local),(PySem.Str.ofString "kept",.local),(PySem.Str.ofString "tint",.free)]:=hy
  simp only[List.mem_cons,List.not_mem_nil,or_false]at hy'
  rcases hy' with rfl|rfl|rfl<;>first|rfl|cases e
def Zg6(cS:Addr):Sp:=fun vs H Q _=>∃(sf d dx l:Addr)(t x:Nat)(fs:List (Str×V))(kvs:List (Key×V))(lf:List (Nat×List Nat))(es:List (Nat×Nat)),vs=[.ref sf,.ref d,.int (t:Int),.int (x:Int)]/\H sf=some (.ins cS dx fs)/\fs.lookup ("near":Str)=some (.ref l)/\Nrs H l es/\es.length<=200/\t<es.length/\
 H d=some (.dK kvs)/\LfR H kvs lf/\(lf.map (·.1)).Nodup/\lf.length<=200/\(∀p∈lf,p.2.length<=1000)/\(∃p∈lf,p.1=t)/\
 ∀H' d' kvs',Same H H'->H' d'=some (.dK kvs')->LfR H' kvs' (nar lf t x (YA es t))->Q (.ref d') H'
theorem ZiG{l:List Nat}{i x y:Nat}(h:l[i]?=some y)(hy:y≠x):(l.take (i+1)).filter (fun z=>z !=x)=(l.take i).filter (fun z=>z !=x)++[y]:=by
 rw[J9 h,List.filter_append,List.filter_cons,if_pos (by simpa using hy)]
 rfl
theorem Zhk{l:List Nat}{i x y:Nat}(h:l[i]?=some y)(hy:y=x):(l.take (i+1)).filter (fun z=>z !=x)=(l.take i).filter (fun z=>z !=x):=by
 rw[J9 h,List.filter_append,List.filter_cons,if_neg (by simpa using hy)]
 simp
theorem Ziz{lf:List (Nat×List Nat)}{t x:Nat}{S:List Nat}(h:∀p∈lf,p.2.length<=1000):∀p∈nar lf t x S,p.2.length<=1000:=by
 intro p hp
 obtain⟨q,hq,rfl⟩:=List.mem_map.mp hp
 have:=h q (List.mem_filter.mp hq).1
 show(if S.contains q.1 then q.2.filter (fun y=>y !=x)else q.2).length<=1000
 split
 ·exact Nat.le_trans (List.length_filter_le _ _) this
 ·exact this
theorem ZgR(lf:List (Nat×List Nat))(t x:Nat)(S:List Nat):(nar lf t x S).length<=lf.length:=by
 unfold nar
 rw[List.length_map]
 exact List.length_filter_le _ _
theorem Zj4{f:Addr}{fd:FuncData}(F:Fun K "narrowed" "Search.narrowed" sNr f fd)(T:Bi mg)(S:SrC K cS):FnOk P w K mg base CX0 1 f fd ["self","left","tie","tint"] (Zg6 cS):=by
 refine F.ok scNr (fun vs H Q E h=>?_) (fun cdv A outer s H vs Q E hr h=>?_)
 ·obtain⟨sf,d,dx,l,t,x,fs,kvs,lf,es,rfl,_⟩:=h
  rfl
 ·obtain⟨sf,d,dx,l,t,x,fs,kvs,lf,es,rfl,hs,hfs,N,hes,ht,hd,L,hn,hll,hle,hmem,q⟩:=h
  have hu:=Zbn hr
  refine⟨_,Zb (Zm (i:=4) scNr.nd rfl (Or.inl rfl) (Z9 ZdI rfl T.dict Zgp (Ze (pv 1) Za)))
   (Zb (YD (Zf2 (pv 4) (pv 2) ⟨rfl,rfl,rfl,rfl⟩))
   (Zb (ZZ PassesOwn.never rfl (Zat (Zo ZV (JK (pv 0) rfl) (pv 2) (fun _ _=>rfl))) (Zt (i:=5) scNr.nd rfl (Or.inl rfl))
    (Zh (Z3 (PW.pt (pw_and (Zdx (Zf6 hu (pv 5) (pv 4))) (pw_and1 (Zi Y1 (pv 3) (JV hu (pv 4) (pv 5) (fun _ _=>rfl)) rfl))))
     (Zh (Zck hu (pv 4) (pv 5) (Z9 ZA rfl T.tuple Yh (Ze (JJ Zku rfl (JV hu (pv 4) (pv 5) (fun _ _=>rfl)) (fun σ H Q Q' k⟨v,e,w1,e1,a,o,h1,h2,h3⟩=>⟨v,e,w1,e1,a,o,h1,h2,k _ _ h3⟩) (fun C fp s H=>Zt (i:=0) Zlo rfl (Or.inl rfl) (hf:=Or.inr rfl))
      (fun C fp s H=>Yv (Zi YI (pv 0) (pv 1) rfl)) (fun C fp s H=>pv 0)) Za)) rfl)) Zr)))
   (Zh (Z2 (pv 4))))),?_⟩
  obtain⟨nrs,hnl,hnlen,hnat⟩:=N
  obtain⟨na,hna,hnt⟩:=hnat t ht
  refine⟨_,rfl,d,kvs,rfl,hd,fun r hr0=>?_⟩
  have s0:Same H (upd H r (.dK kvs)):=Zs hr0
  obtain⟨v0,hv0⟩:∃v0,ZX kvs (Sum.inl (t:Int))=some v0:=by
   rcases L.val t with⟨_,z⟩|⟨a,ls,z,_⟩
   ·obtain⟨p,hp,e⟩:=hmem
    exact absurd e (z p hp)
   ·exact⟨_,z⟩
  refine⟨_,rfl,r,rfl,.inl ⟨kvs,.inl Zf⟩,_,rfl,kvs,Sum.inl (t:Int),v0,Zf,rfl,hv0,?_⟩
  rw[Zca]
  have s1:Same H (upd H r (.dK (YN kvs (Sum.inl (t:Int))))):=Zs hr0
  refine⟨_,rfl,sf,cS,dx,fs,_,rfl,s1 _ _ hs,S.cl,S.n1,hfs,_,rfl,l,_,_,_,rfl,rfl,SqL.of (s1 _ _ hnl),ZH hna,na,rfl,⟨_,SqT.of (s1 _ _ hnt)⟩,?_⟩
  refine Zad (K:=K) (a:=na) (xs:=nl (YA es t)) (fun i σ G=>(∃v5,σ=[some (.ref sf),some (.ref d),some (.int (t:Int)),some (.int (x:Int)),some (.ref r),v5])/\Same H G/\∃ks,G r=some (.dK ks)/\LfR G ks (nar lf t x ((YA es t).take i)))
   ⟨⟨_,rfl⟩,s1,_,Zf,?_⟩ (fun i σ G _⟨_,sG,_⟩=>SqT.of (sG _ _ hnt)) (fun i y σ G hx⟨⟨v5,e⟩,sG,ks,hG,LG⟩=>?_) (fun σ G⟨⟨v5,e⟩,sG,ks,hG,LG⟩=>?_)
  ·rw[List.take_zero,ZgP]
   exact(L.keep (Same.keepT s1)).drop t
  ·subst e
   obtain⟨y,hy,rfl⟩:=ZcJ hx
   rw[J9 hy]
   refine⟨_,rfl,?_⟩
   rcases LG.val y with⟨z1,z2⟩|⟨a,ls,z1,z2,z3⟩
   ·refine⟨_,rfl,r,_,rfl,DGet.k (k:=Sum.inl (y:Int)) hG,?_⟩
    rw[z1]
    refine⟨_,rfl,Zy ?_⟩
    exact⟨⟨_,rfl⟩,sG,ks,hG,by rw[<-ZfL fun p hp e=>absurd e (z2 p hp)];exact LG⟩
   ·have hls:=Ziz (S:=(YA es t).take i) (t:=t) (x:=x) hle _ z2
    refine⟨_,rfl,r,_,rfl,DGet.k (k:=Sum.inl (y:Int)) hG,?_⟩
    rw[z1]
    refine⟨_,rfl,Yr ?_⟩
    have dg:DGet G r (.int (y:Int)) (some (.ref a)):=by
     have:=DGet.k (k:=Sum.inl (y:Int)) hG
     rw[z1]at this
     exact this
    refine⟨_,rfl,_,rfl,_,rfl,r,_,rfl,dg,a,_,rfl,.inr (SqT.of z3),rfl,Zaf ls,_,rfl,?_⟩
    refine ZQ (fun hh=>?_) (fun hh=>?_)
    ·have hxin:=(JE x ls).mp hh
     refine⟨_,rfl,_,rfl,r,_,rfl,dg,a,_,rfl,SqT.of z3,by rw[Z8];exact Nat.le_trans hls (by decide),fun i ys σ G'=>Same G G'/\ys=nl ((ls.take i).filter fun z=>z !=x)/\∃v0,σ=[v0,some (.int (x:Int))],⟨Same.refl _,rfl,none,rfl⟩,fun i ys σ G' hi⟨f1,f2,_⟩=>⟨SqT.of (f1 _ _ z3),?_⟩,fun i u ys σ G' hu'⟨f1,f2,v0,f3⟩=>?_,fun ys σ G'⟨f1,f2,_⟩ l2 G2 s2 hl2=>?_⟩
     ·rw[f2,Z8]
      exact Nat.le_trans (List.length_filter_le _ _) (by rw[List.length_take];omega)
     ·subst f2 f3
      obtain⟨u,hu2,rfl⟩:=ZcJ hu'
      refine⟨_,rfl,_,rfl,rfl,?_⟩
      by_cases z:u=x
      ·subst z
       refine⟨_,rfl,?_⟩
       rw[decide_eq_true rfl]
       refine Zy ⟨f1,?_,_,rfl⟩
       rw[Zhk hu2 rfl]
      ·refine⟨_,rfl,?_⟩
       rw[decide_eq_false (fun q=>z (by have:=V.int.inj q;omega))]
       refine Yr ⟨_,rfl,f1,?_,_,rfl⟩
       rw[ZiG hu2 z,<-Je]
     ·subst f2
      rw[Z8,List.take_length]at hl2
      refine⟨l2,_,rfl,.inl hl2,fun b G3 s3 hb=>?_⟩
      have sG3:Same G G3:=Same.trans f1 (Same.trans s2 s3)
      have hG3:=sG3 _ _ hG
      refine⟨_,rfl,_,rfl,r,_,rfl,DPut.k (k:=Sum.inl (y:Int)) hG3 ?_,⟨_,rfl⟩,?_,_,Zf,?_⟩
      ·have h1:=LG.len
       have h2:=ZgR lf t x ((YA es t).take i)
       exact Nat.lt_of_lt_of_le (show ks.length<1000 by omega) (Yq (by decide))
      ·exact(Same.trans sG sG3).wr hr0
      ·have L3:=(LG.keep (Same.keepT sG3)).put (k:=y) hb (by rw[z1];rfl)
       rw[ZgO hn z2]at L3
       refine L3.keep fun c xs e=>?_
       rw[Zg fun z=>by rw[z,hG3]at e;cases e]
       exact e
    ·refine⟨⟨_,rfl⟩,sG,ks,hG,?_⟩
     rw[<-ZfL fun p hp e=>?_]
     ·exact LG
     ·intro z
      have e2:p.2=ls:=Zed (ZfM hn t x _) (k:=y) (by rw[<-e];exact hp) z2
      rw[e2]at z
      exact hh ((JE x ls).mpr z)
  ·subst e
   rw[Z8,List.take_length]at LG
   exact⟨_,rfl,q G r ks sG hG LG⟩
end
end My
set_option maxHeartbeats 1000000
namespace My
open PySem L2 Cs
def CaseAt(es:List (Nat×Nat))(bs:List (List Nat))(m:Nat)(H:Hp):Nat->Tl->V->Prop
 |0,_,_=>False
 |n+1,tl,v=>∃(t:Nat)(ls:List Nat)(a:Addr),best (lfs es bs m tl)=some (t,ls)/\v= .ref a/\
  ((ls=[]/\H a=some (.tup [.str "stuck",.int (t:Int)]))\/
   (ls≠[]/\∃(b:Addr)(vs:List V),H a=some (.tup [.str "tie",.int (t:Int),.ref b])/\H b=some (.tup vs)/\vs.length=ls.length/\
   ∀(i x:Nat),ls[i]?=some x->∃(c:Addr)(y:V),vs[i]?=some (.ref c)/\H c=some (.tup [.int (x:Int),y])/\CaseAt es bs m H n (tl.set t (some x)) y))
theorem CaseAt.keep{es:List (Nat×Nat)}{bs:List (List Nat)}{m:Nat}{H H':Hp}(k:Yz H H'):∀{n:Nat}{tl:Tl}{v:V},CaseAt es bs m H n tl v->CaseAt es bs m H' n tl v
 |0,_,_,h=>h.elim
 |n+1,tl,v,⟨t,ls,a,h1,h2,h3⟩=>by
  refine⟨t,ls,a,h1,h2,?_⟩
  rcases h3 with⟨e,h3⟩|⟨e,b,vs,h3,h4,h5,h6⟩
  ·exact .inl ⟨e,k _ _ h3⟩
  ·refine .inr ⟨e,b,vs,k _ _ h3,k _ _ h4,h5,fun i x hx=>?_⟩
   obtain⟨c,y,g1,g2,g3⟩:=h6 i x hx
   exact⟨c,y,g1,k _ _ g2,CaseAt.keep k g3⟩
def ResAt(es:List (Nat×Nat))(bs:List (List Nat))(m:Nat)(H:Hp)(n:Nat)(tl:Tl)(v:V):Prop:=
 match(go es bs m n tl).1 with
 |some r=>∃a b,v= .ref a/\H a=some (.tup [.str "tints",.ref b])/\H b=some (.tup (tv r))
 |none=>∃a y,v= .ref a/\H a=some (.tup [.str "cases",y])/\CaseAt es bs m H n tl y
theorem ResAt.full{es:List (Nat×Nat)}{bs:List (List Nat)}{m:Nat}{H:Hp}{n:Nat}{tl r:Tl}{v:V}(h:ResAt es bs m H n tl v)(e:(go es bs m n tl).1=some r):∃a b,v= .ref a/\H a=some (.tup [.str "tints",.ref b])/\H b=some (.tup (tv r)):=by
 unfold ResAt at h
 rw[e]at h
 exact h
theorem ResAt.case{es:List (Nat×Nat)}{bs:List (List Nat)}{m:Nat}{H:Hp}{n:Nat}{tl:Tl}{v:V}(h:ResAt es bs m H n tl v)(e:(go es bs m n tl).1=none):∃a y,v= .ref a/\H a=some (.tup [.str "cases",y])/\CaseAt es bs m H n tl y:=by
 unfold ResAt at h
 rw[e]at h
 exact h
theorem ResAt.of_full{es:List (Nat×Nat)}{bs:List (List Nat)}{m:Nat}{H:Hp}{n:Nat}{tl r:Tl}{v:V}(e:(go es bs m n tl).1=some r)(h:∃a b,v= .ref a/\H a=some (.tup [.str "tints",.ref b])/\H b=some (.tup (tv r))):ResAt es bs m H n tl v:=by
 unfold ResAt
 rw[e]
 exact h
theorem ResAt.of_case{es:List (Nat×Nat)}{bs:List (List Nat)}{m:Nat}{H:Hp}{n:Nat}{tl:Tl}{v:V}(e:(go es bs m n tl).1=none)(h:∃a y,v= .ref a/\H a=some (.tup [.str "cases",y])/\CaseAt es bs m H n tl y):ResAt es bs m H n tl v:=by
 unfold ResAt
 rw[e]
 exact h
theorem Zes{tl:Tl}{t x:Nat}(ht:t<tl.length):Ys (tv tl) none (some (t:Int))++[.int (x:Int)]++Ys (tv tl) (some ((t:Int)+1)) none=tv (tl.set t (some x)):=by
 unfold Ys
 rw[show((t:Int)+1)=((t+1:Nat):Int)from rfl,HT.sIx_nat,HT.sIx_nat,HT.sIx_none,HT.sIx_none]
 have hl:(tv tl).length=tl.length:=by unfold tv;rw[List.length_map]
 rw[hl,List.drop_zero,Nat.sub_zero,Nat.min_eq_left (Nat.le_of_lt ht),Nat.min_eq_left ht]
 unfold tv
 rw[<-List.map_take,<-List.map_drop,List.take_of_length_le (l:=(tl.drop (t+1)).map tN) (by rw[List.length_map,List.length_drop];exact Nat.le_refl _)]
 rw[List.set_eq_take_append_cons_drop,if_pos ht,List.map_append,List.map_cons,List.append_assoc]
 rfl
theorem Zct(es:List (Nat×Nat))(bs:List (List Nat))(m:Nat)(tl:Tl)(k:Nat):(lft es bs m tl k).length<=m:=by
 unfold lft
 exact Nat.le_trans (List.length_filter_le _ _) (by rw[List.length_range];exact Nat.le_refl _)
theorem Zi3{es:List (Nat×Nat)}{bs:List (List Nat)}{m:Nat}{tl:Tl}(hm:m<=1000):∀p∈lfs es bs m tl,p.2.length<=1000:=by
 intro p hp
 obtain⟨k,_,rfl⟩:=List.mem_map.mp hp
 exact Nat.le_trans (Zct es bs m tl k) hm
theorem Zhx(tl:Tl):(bare tl).length<=tl.length:=Nat.le_trans (List.length_filter_le _ _) (by rw[List.length_range];exact Nat.le_refl _)
theorem Zha(es:List (Nat×Nat))(bs:List (List Nat))(m:Nat)(tl:Tl):(lfs es bs m tl).length=(bare tl).length:=by unfold lfs;rw[List.length_map]
theorem Zef{es:List (Nat×Nat)}{bs:List (List Nat)}{m:Nat}{tl:Tl}{k:Nat}{ls:List Nat}(h:(k,ls)∈lfs es bs m tl):ls=lft es bs m tl k:=by
 obtain⟨j,_,e⟩:=List.mem_map.mp h
 cases e
 rfl
end My
set_option maxHeartbeats 1000000
namespace RX
open PySem PySem.Spec PyProof.Rows L2 PySem.W
theorem ZcT{P:Program}{w:World}{K:Frag}{mg:Str->Option Value}{base:Heap}{x qual:Str}{st:Stmt}{f c:Addr}{fd:FuncData}{N ps:List Str}{k:Nat}{sp:Sp}(F:L2.FunC K x qual st f fd c)(S:Zx N ps (L2.Zd st))(len:∀vs H Q E,sp vs H Q E->vs.length=ps.length)
  (hbody:∀(A:Around)(outer:List Env)(s:Shared)(H:Hp)(vs:List V)(Q:VK)(E:XK),Room k (A.deeper (envOfC qual (L2.Zd st) s.heap.objs.size f (.ref c)))->sp vs H Q E->
   ∃t,PSs (ZF (CXe P w) P w K mg base N qual (L2.Zd st) f (.ref c) A outer s H E) (L2.Zj st) t/\t {nx:=fun _ H'=>Q .non H',rt:=Q} (start N vs) H):FnOk P w K mg base (CXe P w) (k+1) f fd ps sp:=by
 obtain⟨oc,od,kV,doc,pm,an,ct,osl,rfl,lk,hcd⟩:=F.ex
 exact ZcU lk hcd S len fun A outer s H vs Q E hr hsp=>hbody A outer s H vs Q E hr hsp
end RX
namespace My
open PySem L2 Cs
section
variable{P:Program}{w:World}{K:PySem.W.Frag}{mg:Str->Option Value}{base:Heap}{cS cT Pt c:Addr}
abbrev sLk:Stmt:=inClass (top 19) 2
abbrev nLk:List Str:=["self","tints","left","tie","branches","tint","told"]
abbrev Zi6:Expr:=ZhC ((Zj sLk).getD 3 (.Pass ⟨0,0,0,0⟩))
abbrev lpos:Pos:=⟨84,28,84,56⟩
abbrev ZbH:Str:="Search.look.<locals>.<lambda>"
abbrev Y8(Pt:Addr)(H:Hp):Prop:=TabI Pt lpos ZbH H
structure Lk(Pt sf:Addr)(H H':Hp):Prop where
 keep:∀b o,b≠Pt->b≠sf->H b=some o->H' b=some o
 tab:Y8 Pt H'
theorem TabI.tbl{P:Addr}{pos:Pos}{qual:Str}{H:Hp}(t:TabI P pos qual H){o:HO}(h:H P=some o):∃ps,o= .tbl ps:=by
 rcases t with t|⟨c',t,_⟩
 ·rw[h]at t;exact⟨_,Option.some.inj t⟩
 ·rw[h]at t;exact⟨_,Option.some.inj t⟩
theorem Lk.trans{Pt sf:Addr}{H H1 H2:Hp}(a:Lk Pt sf H H1)(b:Lk Pt sf H1 H2):Lk Pt sf H H2:=⟨fun c o h1 h2 e=>b.keep c o h1 h2 (a.keep c o h1 h2 e),b.tab⟩
theorem Lk.same{Pt sf:Addr}{H H1 H2:Hp}(a:Lk Pt sf H H1)(s:Same H1 H2):Lk Pt sf H H2:=⟨fun c o h1 h2 e=>s _ _ (a.keep c o h1 h2 e),a.tab.same s⟩
theorem Lk.ok{Pt sf:Addr}{H H':Hp}{b C dx:Addr}{fs:List (Str×V)}{o:HO}(a:Lk Pt sf H H')(t:Y8 Pt H)(hs:H sf=some (.ins C dx fs))(e:H b=some o)(h1:∀ps,o≠.tbl ps) (h2:∀C dx fs,o≠.ins C dx fs):H' b=some o:=by
 refine a.keep b o (fun z=>?_) (fun z=>?_) e
 ·subst z
  obtain⟨ps,h⟩:=TabI.tbl t e
  exact h1 ps h
 ·subst z
  rw[hs]at e
  exact h2 _ _ _ (Option.some.inj e).symm
theorem Lk.keepT{Pt sf:Addr}{H H':Hp}{C dx:Addr}{fs:List (Str×V)}(a:Lk Pt sf H H')(t:Y8 Pt H)(hs:H sf=some (.ins C dx fs)):Yz H H':=fun b xs e=>a.ok t hs e (fun _=>by simp) fun _ _ _=>by simp
theorem Lk.nrs{Pt sf l:Addr}{H H':Hp}{C dx:Addr}{fs:List (Str×V)}{es:List (Nat×Nat)}(a:Lk Pt sf H H')(t:Y8 Pt H)(hs:H sf=some (.ins C dx fs))(N:Nrs H l es):Nrs H' l es:=by
 obtain⟨xs,a1,a2,a3⟩:=N
 refine⟨xs,a.ok t hs a1 (fun _=>by simp) fun _ _ _=>by simp,a2,fun k hk=>?_⟩
 obtain⟨b,b1,b2⟩:=a3 k hk
 exact⟨b,b1,a.keepT t hs _ _ b2⟩
abbrev sfO(cS dx l:Addr)(mo c:Nat):HO:= .ins cS dx [("near",.ref l),("most",.int (mo:Int)),("looked",.int (c:Int))]
def ZaU(cS cT Pt:Addr)(es:List (Nat×Nat))(bs:List (List Nat))(m n:Nat):Sp:=fun vs H Q E=>∃(sf tq d dx l:Addr)(k mo:Nat)(tl:Tl)(kvs:List (Key×V)),vs=[.ref sf,.ref tq,.ref d]/\H sf=some (sfO cS dx l mo k)/\Nrs H l es/\es.length<=200/\m<=1000/\H tq=some (.tup (tv tl))/\tl.length=es.length/\
 H d=some (.dK kvs)/\LfR H kvs (lfs es bs m tl)/\(bare tl).length<=n/\Y8 Pt H/\
 (k+(go es bs m n tl).2<=mo->∀H' v,Lk Pt sf H H'->H' sf=some (sfO cS dx l mo (k+(go es bs m n tl).2))->ResAt es bs m H' n tl v->Q v H')/\
 (mo<k+(go es bs m n tl).2->∀H' dx',Lk Pt sf H H'->H' dx'=none->E (.ref cT) (some dx') (upd H' dx' (.xd [("most",.int (mo:Int))])))
theorem scLk:Zx nLk ["self","tints","left"] (Zd sLk):=⟨rfl,rfl,rfl,by decide+kernel,rfl,by decide+kernel,by decide+kernel⟩
theorem Zl1:Lam "bare" ["left"] (Zeh Zi6) (JZ Zi6):=⟨rfl,rfl,rfl,by decide+kernel,rfl,fun _ _ _ _ _ _ _ _=>rfl,by decide+kernel⟩
theorem Zl7{f:Addr}{A:Around}{outer:List Env}{s:Shared}{H:Hp}{E:XK}:
  Blk (ZF (RX.CXe P w) P w K mg base nLk "Search.look" (Zd sLk) f (.ref c) A outer s H E).nox (JZ Zi6) [("left",s.heap.objs.size+1)] ["left"] [some 2]:=by
 refine⟨rfl,rfl,by decide+kernel,by decide+kernel,fun p hp=>?_,fun y hy e=>?_,⟨rfl,rfl,rfl⟩,trivial⟩
 ·rw[List.mem_singleton.mp hp]
  rfl
 ·have hy':y∈[((PySem.Str.ofString "bare":Str),NameKind.local),(PySem.Str.ofString "left",.free),(PySem.Str.ofString "len",.globalImplicit)]:=hy
  simp only[List.mem_cons,List.not_mem_nil,or_false]at hy'
  rcases hy' with rfl|rfl|rfl<;>first|rfl|cases e
structure Grt(P:Program)(w:World)(K:PySem.W.Frag)(mg:Str->Option Value)(base:Heap)(cT:Addr):Prop where
 ex:∃(D fI:Addr)(fdI:FuncData),RX.XCl K cT D/\PySem.W.findIn K (.ref cT) "__init__"=some (some (.ref fI))/\PySem.W.isFn K (.ref fI)=true/\FnOk P w K mg base CX0 1 fI fdI ["self","most"] (RX.ZaV cT "most")/\L2.Binds K fdI ["self","most"] []
 at_:mg "TooGreat"=some (.ref cT)
theorem ZfG{f:Addr}{fd:FuncData}(F:FunC K "look" "Search.look" sLk f fd c)(T:Bi mg)(S:SrC K cS)(G:Grt P w K mg base cT)(es:List (Nat×Nat))(bs:List (List Nat))(m:Nat):FnOk P w K mg base (RX.CXe P w) 5 f fd ["self","tints","left"] (ZaU cS cT Pt es bs m 0):=by
 refine RX.ZcT F scLk (fun vs H Q E h=>?_) (fun A outer s H vs Q E hr h=>?_)
 ·obtain⟨sf,tq,d,dx,l,k,mo,tl,kvs,rfl,_⟩:=h
  rfl
 ·obtain⟨sf,tq,d,dx,l,k,mo,tl,kvs,rfl,hs,N,hes,hm,htq,htl,hd,L,hb,hT,q1,q2⟩:=h
  obtain⟨D,fI,fdI,xc,hi,hfn,FI,bI⟩:=G.ex
  refine⟨_,Zb (PS.nox (ZbG (pv 0) Zc ZfZ))
   (Zb (Z3 (PT.nox (Zi Za6 (JK (pv 0) rfl) (JK (pv 0) rfl) (Zp _))) (Zh (RX.J7 xc hi hfn (FI.mono (j:=1) (k:=3) (by decide)) hr bI rfl G.at_ (Ze (JK (pv 0) rfl) Za) rfl rfl rfl (fun _ _ h=>h))) Zr)
   (Zb (Z3 (PT.nox (ZY (ZaZ (pv 2) (fun _=>rfl)))) (Zh (Z2 (Zu (Ze Yi (Ze (pv 1) Za))))) Zr)
   Zw)),?_⟩
  have hbare:bare tl=[]:=List.eq_nil_of_length_eq_zero (Nat.le_zero.mp hb)
  have hlf:lfs es bs m tl=[]:=by unfold lfs;rw[hbare];rfl
  have hgo:go es bs m 0 tl=(some tl,1):=rfl
  rw[hgo]at q1 q2
  rw[hlf]at L
  have hk0:kvs=[]:=by cases L;rfl
  subst hk0
  refine⟨_,rfl,sf,cS,dx,_,_,rfl,hs,S.cl,S.n3,rfl,_,_,rfl,rfl,dx,_,hs,(by show 3<1000;decide),?_⟩
  rw[Za5,show((k:Int)+1)=((k+1:Nat):Int)from rfl]
  have lk1:Lk Pt sf H (upd H sf (sfO cS dx l mo (k+1))):=⟨fun b o _ h2 e=>by rw[Zg h2];exact e,by
   have hPs:Pt≠sf:=fun z=>by
    obtain⟨ps,h⟩:=TabI.tbl hT (show H Pt=some _ by rw[z];exact hs)
    cases h
   rcases hT with t|⟨c',t1,t2⟩
   ·exact .inl (by rw[Zg hPs];exact t)
   ·exact .inr ⟨c',by rw[Zg hPs];exact t1,by rw[Zg fun z=>by rw[z,hs]at t2;cases t2];exact t2⟩⟩
  refine⟨_,rfl,sf,cS,dx,_,_,rfl,Zf,S.cl,S.n3,rfl,_,rfl,sf,cS,dx,_,_,rfl,Zf,S.cl,S.n2,rfl,_,_,rfl,rfl,_,rfl,?_⟩
  refine ZQ (fun z=>?_) (fun z=>?_)
  ·have hz:=of_decide_eq_true z
   exact⟨_,rfl,sf,cS,dx,_,_,rfl,Zf,S.cl,S.n2,rfl,_,rfl,fun dx' hdx=>q2 (by omega) _ dx' lk1 hdx⟩
  ·have hz:k+1<=mo:=by
    by_cases y:k+1<=mo
    ·exact y
    ·exact absurd (decide_eq_true (by omega)) z
   refine⟨_,rfl,false,.inr (.inr ⟨[],by rw[Zg fun z=>by rw[z,hs]at hd;cases hd];exact hd,rfl⟩),Yr ?_⟩
   refine⟨_,rfl,rfl,fun a H' s' ha=>q1 hz H' (.ref a) (lk1.same s') (s' _ _ Zf) (ResAt.of_full (r:=tl) rfl ⟨a,tq,rfl,ha,s' _ _ (by rw[Zg fun z=>by rw[z,hs]at htq;cases htq];exact htq)⟩)⟩
end
end My
set_option maxHeartbeats 2000000
namespace My
open PySem L2 Cs
theorem Zc2{g:Tl->Option Tl×Nat}{tl r:Tl}{t x c k:Nat}{xs:List Nat}(h:g (tl.set t (some x))=(some r,k)):br g tl t (x::xs) c=(some r,c+k):=by
 rw[br,h]
theorem Zeu{g:Tl->Option Tl×Nat}{tl:Tl}{t x c k:Nat}{xs:List Nat}(h:g (tl.set t (some x))=(none,k)):br g tl t (x::xs) c=br g tl t xs (c+k):=by
 rw[br,h]
theorem Zhn{l:List Nat}{i x:Nat}(h:l[i]?=some x):l.drop i=x::l.drop (i+1):=by
 obtain⟨hi,e⟩:=List.getElem?_eq_some_iff.mp h
 rw[List.drop_eq_getElem_cons hi,e]
theorem ZfQ{es:List (Nat×Nat)}{bs:List (List Nat)}{m:Nat}{tl:Tl}{i:Nat}{p:Nat×List Nat}(h:(lfs es bs m tl)[i]?=some p):p.2=lft es bs m tl p.1:=by
 have:=List.mem_of_getElem? h
 obtain⟨k,_,rfl⟩:=List.mem_map.mp this
 rfl
section
variable{P:Program}{w:World}{K:PySem.W.Frag}{mg:Str->Option Value}{base:Heap}{cS cT Pt c:Addr}
theorem ZfF{f:Addr}{fd:FuncData}(F:FunC K "look" "Search.look" sLk f fd c)(T:Bi mg)(S:SrC K cS)(G:Grt P w K mg base cT)(hbm:BM mg base)(hC:PySem.W.codeHdIn K c Pt=true)(hM:ZdL K cS "look" f)(bL:L2.Binds K fd ["self","tints","left"] [])
  (MN:MeE P w K mg base cS "narrowed" ["self","left","tie","tint"] 1 (Zg6 cS))(es:List (Nat×Nat))(bs:List (List Nat))(m n:Nat)(IH:FnOk P w K mg base (RX.CXe P w) (n+5) f fd ["self","tints","left"] (ZaU cS cT Pt es bs m n)):
  FnOk P w K mg base (RX.CXe P w) (n+1+5) f fd ["self","tints","left"] (ZaU cS cT Pt es bs m (n+1)):=by
 refine RX.ZcT (k:=n+5) F scLk (fun vs H Q E h=>?_) (fun A outer s H vs Q E hr h=>?_)
 ·obtain⟨sf,tq,d,dx,l,k,mo,tl,kvs,rfl,_⟩:=h
  rfl
 ·obtain⟨sf,tq,d,dx,l,k,mo,tl,kvs,rfl,hs,N,hes,hm,htq,htl,hd,L,hb,hT,q1,q2⟩:=h
  obtain⟨D,fI,fdI,xc,hi,hfn,FI,bI⟩:=G.ex
  have hu:=Zbn hr
  have hr3:Room 3 _:=hr.mono (by omega)
  have hr1:Room 1 _:=hr.mono (by omega)
  refine⟨_,Zb (PS.nox (ZbG (pv 0) Zc ZfZ))
   (Zb (Z3 (PT.nox (Zi Za6 (JK (pv 0) rfl) (JK (pv 0) rfl) (Zp _))) (Zh (RX.J7 xc hi hfn (FI.mono (j:=1) (k:=n+4) (by omega)) hr bI rfl G.at_ (Ze (JK (pv 0) rfl) Za) rfl rfl rfl (fun _ _ h=>h))) Zr)
   (Zb (Z3 (PT.nox (ZY (ZaZ (pv 2) (fun _=>rfl)))) (Zh (Z2 (Zu (Ze Yi (Ze (pv 1) Za))))) Zr)
   (Zb (PS.nox (Zm (i:=3) scLk.nd rfl (Or.inl rfl) (ZeB (k:=0) (x:="bare") (P:=Pt) (qual:=ZbH) Zl7 Zl1 hbm rfl hC rfl rfl hr3 rfl T.min (pv 2)
    (fun f' c' A' s' H' hr'=>Zn (JB (K:=K) rfl) rfl T.len Ye (Ze (JV (Zbn hr') (pv 1) (pv 0) (fun _ _=>rfl)) Za)))))
   (Zb (Z3 (PT.nox (ZY (ZaZ (JV hu (pv 2) (pv 3) (fun _ _=>rfl)) (fun _=>rfl)))) (Zh (Z2 (Zu (Ze Yi (Ze (Zu (Ze Yi (Ze (pv 3) Za))) Za))))) Zr)
   (Zb (PS.nox (Zm (i:=4) scLk.nd rfl (Or.inl rfl) (Jc Za)))
   (Zb (ZZ RX.Zju rfl (Zat (JV hu (pv 2) (pv 3) (fun _ _=>rfl))) (Zt (i:=5) scLk.nd rfl (Or.inl rfl))
    (Zb (Zm (i:=6) scLk.nd rfl (Or.inl rfl) (Zcl (pv 0) S.cl hM IH hr bL .nil (RX.ZcG fun _ _ _ z=>z)
     (Ze (Zq JW (Zq JW (Yx Zds (pv 1) YF (YE (pv 3))) (Zu (Ze (pv 5) Za))) (Yx Zds (pv 1) (YE (Zq ZE (pv 3) Zc)) YF))
     (Ze (Zjs MN hr1 (pv 0) (Ze (pv 2) (Ze (pv 3) (Ze (pv 5) Za)))) Za))))
    (Zb (Z3 (PT.nox (Zi ZR (Zo Zl (pv 6) Zc (fun _ _=>rfl)) Yi (Zp _))) (Zh (Z2 (pv 6))) Zr)
    (Zh (PS.nox (YD (Jo PySem.F.plainAttrs_list PySem.F.slot_list_append PySem.F.type_list_append Yu (pv 4) (Ze (Zu (Ze (pv 5) (Ze (Zo Zl (pv 6) Zc (fun _ _=>rfl)) Za))) Za))))))))
   (Zh (Z2 (Zu (Ze Yi (Ze (Zu (Ze Yi (Ze (pv 3) (Ze (Z9 ZA rfl T.tuple Yh (Ze (pv 4) Za)) Za)))) Za))))))))))),?_⟩
  have hgp:1<=(go es bs m (n+1) tl).2:=go_pos
  refine⟨_,rfl,sf,cS,dx,_,_,rfl,hs,S.cl,S.n3,rfl,_,_,rfl,rfl,dx,_,hs,(by show 3<1000;decide),?_⟩
  rw[Za5,show((k:Int)+1)=((k+1:Nat):Int)from rfl]
  have lk1:Lk Pt sf H (upd H sf (sfO cS dx l mo (k+1))):=⟨fun b o _ h2 e=>by rw[Zg h2];exact e,by
   have hPs:Pt≠sf:=fun z=>by
    obtain⟨ps,h⟩:=TabI.tbl hT (show H Pt=some _ by rw[z];exact hs)
    cases h
   rcases hT with t|⟨c',t1,t2⟩
   ·exact .inl (by rw[Zg hPs];exact t)
   ·exact .inr ⟨c',by rw[Zg hPs];exact t1,by rw[Zg fun z=>by rw[z,hs]at t2;cases t2];exact t2⟩⟩
  obtain⟨H1,hH1⟩:∃H1,H1=upd H sf (sfO cS dx l mo (k+1)):=⟨_,rfl⟩
  have hs1:H1 sf=some (sfO cS dx l mo (k+1)):=by rw[hH1];exact Zf
  rw[<-hH1]at lk1⊢
  refine⟨_,rfl,sf,cS,dx,_,_,rfl,hs1,S.cl,S.n3,rfl,_,rfl,sf,cS,dx,_,_,rfl,hs1,S.cl,S.n2,rfl,_,_,rfl,rfl,_,rfl,?_⟩
  refine ZQ (fun z=>?_) (fun z=>?_)
  ·have hz:=of_decide_eq_true z
   exact⟨_,rfl,sf,cS,dx,_,_,rfl,hs1,S.cl,S.n2,rfl,_,rfl,fun dx' hdx=>q2 (by omega) _ dx' lk1 hdx⟩
  have hz:k+1<=mo:=by
   by_cases y:k+1<=mo
   ·exact y
   ·exact absurd (decide_eq_true (by omega)) z
  have hd1:H1 d=some (.dK kvs):=lk1.ok hT hs hd (fun _=>by simp) fun _ _ _=>by simp
  have htq1:H1 tq=some (.tup (tv tl)):=lk1.keepT hT hs _ _ htq
  have L1:=L.keep (lk1.keepT hT hs)
  refine⟨_,rfl,!kvs.isEmpty,.inr (.inr ⟨kvs,hd1,rfl⟩),?_⟩
  cases hbest:best (lfs es bs m tl)with
  |none=>
   have hk0:kvs=[]:=by
    rw[best_none.mp hbest]at L
    cases L
    rfl
   subst hk0
   refine Yr ?_
   have hgo:=ZaM (n:=n+1) hbest
   rw[hgo]at q1
   exact⟨_,rfl,rfl,fun a H' s' ha=>q1 hz H' (.ref a) (lk1.same s') (s' _ _ hs1) (ResAt.of_full (r:=tl) (by rw[hgo]) ⟨a,tq,rfl,ha,s' _ _ htq1⟩)⟩
  |some bq=>
   obtain⟨t,ls⟩:=bq
   obtain⟨b1,b2,b3,b4⟩:=ZaO hbest
   have hgo:=Zab (n:=n) hbest
   have hne:kvs.isEmpty=false:=by
    have h1:=L.len
    cases kvs with
    |nil=>
     rw[List.eq_nil_of_length_eq_zero h1.symm]at hbest
     cases hbest
    |cons _ _=>rfl
   rw[hne]
   refine Zy ?_
   have hlen:=L1.len
   refine⟨_,rfl,d,kvs,(lfs es bs m tl).map (fun p=>(p.1:Int)),fun z=>((lft es bs m tl z.toNat).length:Int),[.ref d],rfl,hd1,L1.keys,?_,lk1.tab,rfl,fun z hz' H3 k3 r3=>?_,fun H2 g2 i z hiz hmin=>?_⟩
   ·rw[List.length_map]
    cases hq:lfs es bs m tl with
    |nil=>rw[hq]at hbest;cases hbest
    |cons _ _=>exact Nat.succ_pos _
   ·obtain⟨p,hp,rfl⟩:=List.mem_map.mp hz'
    rcases L1.val p.1 with⟨_,y2⟩|⟨a,ls',y1,y2,y3⟩
    ·exact absurd rfl (y2 p hp)
    ·have e1:=Zef y2
     have hsa:H3 a=some (.tup (nl ls')):=by
      refine k3 a _ (fun z=>?_) (fun z=>?_) y3
      ·rw[z,hd1]at y3;cases y3
      ·obtain⟨ps,h⟩:=TabI.tbl lk1.tab (show H1 Pt=some _ by rw[<-z];exact y3)
       cases h
     refine⟨_,rfl,_,rfl,d,_,rfl,.inl ⟨kvs,Sum.inl (p.1:Int),r3,rfl,y1.symm⟩,a,_,rfl,.inr (SqT.of hsa),?_⟩
     refine⟨?_,rfl⟩
     show V.int ((nl ls').length:Int)=V.int ((lft es bs m tl (p.1:Int).toNat).length:Int)
     rw[Z8,e1,Int.toNat_natCast]
   obtain⟨p,hp,rfl⟩:∃p,(lfs es bs m tl)[i]?=some p/\z=(p.1:Int):=by
    rw[List.getElem?_map]at hiz
    cases hq:(lfs es bs m tl)[i]? with
    |none=>rw[hq]at hiz;cases hiz
    |some p=>rw[hq]at hiz;exact⟨p,rfl,(Option.some.inj hiz).symm⟩
   have hbp:best (lfs es bs m tl)=some p:=Zhv hp fun j p' hj=>by
    have h1:=hmin j (p'.1:Int) (by rw[List.getElem?_map,hj];rfl)
    dsimp only at h1
    rw[Int.toNat_natCast,Int.toNat_natCast]at h1
    rw[ZfQ hp,ZfQ hj]
    exact⟨by omega,fun hji=>by have:=h1.2 hji;omega⟩
   rw[hbest]at hbp
   cases hbp
   have lk2:Lk Pt sf H H2:=⟨fun b o h1 h2 e=>g2.keep b o (lk1.keep b o h1 h2 e) h1,g2.tab⟩
   have hs2:H2 sf=some (sfO cS dx l mo (k+1)):=g2.keep _ _ hs1 fun z=>by
    obtain⟨ps,h⟩:=TabI.tbl lk1.tab (show H1 Pt=some _ by rw[<-z];exact hs1)
    cases h
   have hd2:H2 d=some (.dK kvs):=lk2.ok hT hs hd (fun _=>by simp) fun _ _ _=>by simp
   have L2':=L.keep (lk2.keepT hT hs)
   obtain⟨la,hva,hla⟩:∃la,ZX kvs (Sum.inl (t:Int))=some (.ref la)/\H la=some (.tup (nl ls)):=by
    rcases L.val t with⟨_,y2⟩|⟨a,ls',y1,y2,y3⟩
    ·exact absurd rfl (y2 (t,ls) (Zai hbest))
    ·rw[Zef y2,<-b4]at y3
     exact⟨a,y1,y3⟩
   have hla2:=lk2.keepT hT hs _ _ hla
   have dg:∀{G:Hp},G d=some (.dK kvs)->DGet G d (.int (t:Int)) (some (.ref la)):=fun{G} e=>by
    have:=DGet.k (k:=Sum.inl (t:Int)) e
    rw[hva]at this
    exact this
   refine⟨_,rfl,_,rfl,d,_,rfl,dg hd2,!(nl ls).isEmpty,.inr (.inl ⟨_,SqT.of hla2,rfl⟩),?_⟩
   cases hls:ls with
   |nil=>
    rw[hls]at hgo
    have hgo2:go es bs m (n+1) tl=(none,1):=hgo
    rw[hgo2]at q1
    refine Yr ⟨_,rfl,rfl,fun a Ha sa ha=>⟨rfl,fun b Hb sb hb=>q1 hz Hb (.ref b) (lk2.same (Same.trans sa sb)) (sb _ _ (sa _ _ hs2)) (ResAt.of_case (by rw[hgo2]) ⟨b,.ref a,rfl,hb,t,[],a,by rw[hbest,hls],rfl,.inl ⟨rfl,sb _ _ ha⟩⟩)⟩⟩
   |cons x0 xs0=>
    rw[<-hls]
    have hne2:ls≠[]:=by rw[hls];exact List.cons_ne_nil _ _
    have hemp:(nl ls).isEmpty=false:=by rw[hls];rfl
    rw[hemp]
    refine Zy ⟨Nat.zero_le _,fun B hB=>?_⟩
    have sB:Same H2 (upd H2 B (.lst [])):=Zs hB
    have lkB:Lk Pt sf H (upd H2 B (.lst [])):=lk2.same sB
    have hB0:∀{b:Addr}{o:HO},H2 b=some o->b≠B:=fun{b o} e z=>by rw[z,hB]at e;cases e
    refine⟨_,rfl,_,rfl,d,_,rfl,dg (sB _ _ hd2),la,rfl,⟨_,SqT.of (sB _ _ hla2)⟩,?_⟩
    refine Zad (K:=K) (a:=la) (xs:=nl ls) (fun i σ G=>∃(v5 v6:Option V)(brs:List V)(ki:Nat),σ=[some (.ref sf),some (.ref tq),some (.ref d),some (.int (t:Int)),some (.ref B),v5,v6]/\Lk Pt sf H G/\G sf=some (sfO cS dx l mo (k+ki))/\k+ki<=mo/\G B=some (.lst brs)/\brs.length=i/\
      (∀(j x:Nat),j<i->ls[j]?=some x->∃(c:Addr)(y:V),brs[j]?=some (.ref c)/\G c=some (.tup [.int (x:Int),y])/\CaseAt es bs m G n (tl.set t (some x)) y)/\br (go es bs m n) tl t ls 1=br (go es bs m n) tl t (ls.drop i) ki)
     ⟨_,_,[],1,rfl,lkB,sB _ _ hs2,hz,Zf,rfl,fun j x hj=>absurd hj (Nat.not_lt_zero _),rfl⟩ (fun i σ G _⟨_,_,_,_,_,lkG,_⟩=>SqT.of (lkG.keepT hT hs _ _ hla)) (fun i y σ G hx⟨v5,v6,brs,ki,e,lkG,hsG,hki,hBG,hbl,hbr,hgi⟩=>?_) (fun σ G⟨v5,v6,brs,ki,e,lkG,hsG,hki,hBG,hbl,hbr,hgi⟩=>?_)
    ·subst e
     obtain⟨x,hy,rfl⟩:=ZcJ hx
     have hdr:=Zhn hy
     rw[hdr]at hgi
     have htl2:(tv tl).length=tl.length:=by unfold tv;rw[List.length_map]
     have htqG:=lkG.keepT hT hs _ _ htq
     have hdG:G d=some (.dK kvs):=lkG.ok hT hs hd (fun _=>by simp) fun _ _ _=>by simp
     refine⟨_,rfl,sf,dx,_,rfl,hsG,rfl,?_⟩
     refine⟨_,rfl,_,rfl,_,rfl,tq,_,rfl,SqT.of htqG,?_,fun p1 hp1=>?_⟩
     ·rw[HT.sIx_none,HT.sIx_nat,htl2,Nat.min_eq_left (Nat.le_of_lt b2)]
      omega
     have sp1:Same G (upd G p1 (.tup (Ys (tv tl) none (some (t:Int))))):=Zs hp1
     have hl40:=hes
     refine⟨_,rfl,rfl,fun p2 G2 s2 h2=>⟨p1,p2,_,_,rfl,rfl,s2 _ _ Zf,h2,?_,fun p3 G3 s3 h3=>?_⟩⟩
     ·have:=ZK (tv tl) none (some (t:Int))
      simp only[List.length_cons,List.length_nil]
      omega
     have sG3:Same G G3:=Same.trans sp1 (Same.trans s2 s3)
     refine⟨_,rfl,_,rfl,_,_,rfl,rfl,_,rfl,tq,_,rfl,SqT.of (sG3 _ _ htqG),?_,fun p4 hp4=>?_⟩
     ·rw[show((t:Int)+1)=((t+1:Nat):Int)from rfl,HT.sIx_nat,htl2,Nat.min_eq_left b2]
      omega
     have sp4:Same G3 (upd G3 p4 (.tup (Ys (tv tl) (some ((t:Int)+1)) none))):=Zs hp4
     refine⟨p3,p4,_,_,rfl,rfl,sp4 _ _ h3,Zf,?_,fun p5 G5 s5 h5=>?_⟩
     ·have:=ZK (tv tl) none (some (t:Int))
      have:=ZK (tv tl) (some ((t:Int)+1)) none
      simp only[List.length_append,List.length_cons,List.length_nil]
      omega
     rw[Zes b2]at h5
     have sG5:Same G G5:=Same.trans sG3 (Same.trans sp4 s5)
     have lk5:=lkG.same sG5
     have L5:=L.keep (lk5.keepT hT hs)
     refine⟨_,rfl,sf,dx,_,rfl,sG5 _ _ hsG,rfl,_,rfl,_,rfl,_,rfl,sf,d,dx,l,t,x,_,kvs,lfs es bs m tl,es,rfl,sG5 _ _ hsG,rfl,lk5.nrs hT hs N,hes,by rw[<-htl];exact b2,sG5 _ _ hdG,L5,Zi2 es bs m tl,?_,Zi3 hm,⟨_,Zai hbest,rfl⟩,fun G6 d6 kv6 s6 h6 L6=>?_⟩
     ·rw[Zha]
      have:=Zhx tl
      omega
     rw[ZgQ htl b2 b3]at L6
     have sG6:Same G G6:=Same.trans sG5 s6
     have lk6:=lkG.same sG6
     obtain⟨r,kx,hg⟩:∃r kx,go es bs m n (tl.set t (some x))=(r,kx):=⟨_,_,rfl⟩
     have hcut:∀{G':Hp},Lk Pt sf G6 G'->Lk Pt sf H G':=fun a=>lk6.trans a
     refine⟨sf,p5,d6,dx,l,k+ki,mo,tl.set t (some x),kv6,rfl,sG6 _ _ hsG,lk6.nrs hT hs N,hes,hm,s6 _ _ h5,by rw[List.length_set];exact htl,h6,L6,by have:=Zb2 (x:=x) b1;omega,lk6.tab,fun hle G7 v lk7 hs7 r7=>?_,fun hgt G7 dx7 lk7 hdx7=>?_⟩
     ·rw[hg]at hle hs7
      have hs7':G7 sf=some (sfO cS dx l mo (k+(ki+kx))):=by rw[<-Nat.add_assoc];exact hs7
      cases r with
      |some r=>
       obtain⟨a,b,rfl,ha,hb7⟩:=r7.full (by rw[hg])
       rw[Zc2 hg]at hgi
       rw[hgo,hgi]at q1
       refine⟨_,rfl,a,_,_,_,rfl,rfl,SqT.of ha,rfl,rfl,_,rfl,Yr ⟨_,rfl,q1 (by omega) G7 _ (lk6.trans lk7) hs7' (ResAt.of_full (r:=r) (by rw[hgo,hgi]) ⟨a,b,rfl,ha,hb7⟩)⟩⟩
      |none=>
       obtain⟨a,y,rfl,ha,hc7⟩:=r7.case (by rw[hg])
       rw[Zeu hg]at hgi
       have hT6:=lk6.tab
       have hs6:=sG6 _ _ hsG
       have hB7:G7 B=some (.lst brs):=lk7.ok hT6 hs6 (sG6 _ _ hBG) (fun _=>by simp) fun _ _ _=>by simp
       refine⟨_,rfl,a,_,_,_,rfl,rfl,SqT.of ha,rfl,rfl,_,rfl,Zy ?_⟩
       refine⟨_,rfl,.inl ⟨rfl,_,SqL.of hB7⟩,_,rfl,_,rfl,a,_,_,_,rfl,rfl,SqT.of ha,rfl,rfl,fun p8 G8 s8 h8=>?_⟩
       have hB8:=s8 _ _ hB7
       refine⟨B,brs,_,rfl,rfl,hB8,?_,?_⟩
       ·have hi:=(List.getElem?_eq_some_iff.mp hy).1
        have h1:=Zct es bs m tl t
        rw[<-b4]at h1
        exact Nat.lt_of_lt_of_le (show brs.length<1001 by omega) (Yq (by decide))
       ·have lk8:Lk Pt sf H (upd G8 B (.lst (brs++[.ref p8]))):=by
         have lk8':=(lk6.trans lk7).same s8
         have hBP:B≠Pt:=fun z=>by
          obtain⟨ps,h⟩:=TabI.tbl lk8'.tab (show G8 Pt=some _ by rw[<-z];exact hB8)
          cases h
         refine⟨fun b o h1 h2 e=>?_,?_⟩
         ·have h3:=lk2.keep b o h1 h2 e
          rw[Zg (hB0 h3)]
          exact lk8'.keep b o h1 h2 e
         ·rcases lk8'.tab with t|⟨c',t1,t2⟩
          ·exact .inl (by rw[Zg (Ne.symm hBP)];exact t)
          ·exact .inr ⟨c',by rw[Zg (Ne.symm hBP)];exact t1,by rw[Zg fun z=>by rw[z,hB8]at t2;cases t2];exact t2⟩
        have kt:Yz G8 (upd G8 B (.lst (brs++[.ref p8]))):=fun b xs e=>by
         rw[Zg fun z=>by rw[z,hB8]at e;cases e]
         exact e
        have kt7:Yz G7 (upd G8 B (.lst (brs++[.ref p8]))):=fun b xs e=>kt _ _ (s8 _ _ e)
        have ktG:Yz G (upd G8 B (.lst (brs++[.ref p8]))):=fun b xs e=>kt7 _ _ (lk7.keepT hT6 hs6 _ _ (sG6 _ _ e))
        refine⟨_,_,_,ki+kx,rfl,lk8,?_,by omega,Zf,by rw[List.length_append,hbl];rfl,fun j z hj hzj=>?_,hgi⟩
        ·rw[Zg fun z=>by rw[<-z,s8 _ _ hs7']at hB8;cases hB8]
         exact s8 _ _ hs7'
        ·by_cases hji:j<i
         ·obtain⟨c1,y1,g1,g2,g3⟩:=hbr j z hji hzj
          exact⟨c1,y1,by rw[List.getElem?_append_left (by omega)];exact g1,ktG _ _ g2,g3.keep ktG⟩
         ·have e2:j=i:=by omega
          subst e2
          rw[hy]at hzj
          cases hzj
          exact⟨p8,y,by rw[List.getElem?_append_right (by omega),hbl,Nat.sub_self];rfl,kt _ _ h8,hc7.keep kt7⟩
     ·rw[hg]at hgt
      refine q2 ?_ G7 dx7 (lk6.trans lk7) hdx7
      rw[hgo,hgi]
      have hge:ki+kx<=(br (go es bs m n) tl t (x::ls.drop (i+1)) ki).2:=by
       cases r with
       |none=>rw[Zeu hg];exact Zgn _ _
       |some r=>rw[Zc2 hg];exact Nat.le_refl _
      omega
    ·subst e
     rw[Z8]at hbl hbr hgi
     rw[List.drop_length]at hgi
     have hgn:go es bs m (n+1) tl=(none,ki):=by rw[hgo,hgi];rfl
     rw[hgn]at q1
     refine⟨_,rfl,_,rfl,B,brs,rfl,.inl hBG,fun p1 G1 s1 h1=>⟨rfl,fun p2 G2 s2 h2=>⟨rfl,fun p3 G3 s3 h3=>?_⟩⟩⟩
     have sG3:Same G G3:=Same.trans s1 (Same.trans s2 s3)
     refine q1 hki G3 (.ref p3) (lkG.same sG3) (sG3 _ _ hsG) (ResAt.of_case (by rw[hgn]) ⟨p3,.ref p2,rfl,h3,t,ls,p2,hbest,rfl,.inr ⟨hne2,p1,brs,s3 _ _ h2,s3 _ _ (s2 _ _ h1),hbl,fun i x hx=>?_⟩⟩)
     obtain⟨c1,y1,g1,g2,g3⟩:=hbr i x (List.getElem?_eq_some_iff.mp hx).1 hx
     exact⟨c1,y1,g1,sG3 _ _ g2,g3.keep (Same.keepT sG3)⟩
theorem Zeb{f:Addr}{fd:FuncData}(F:FunC K "look" "Search.look" sLk f fd c)(T:Bi mg)(S:SrC K cS)(G:Grt P w K mg base cT)(hbm:BM mg base)(hC:PySem.W.codeHdIn K c Pt=true)(hM:ZdL K cS "look" f)(bL:L2.Binds K fd ["self","tints","left"] [])
  (MN:MeE P w K mg base cS "narrowed" ["self","left","tie","tint"] 1 (Zg6 cS))(es:List (Nat×Nat))(bs:List (List Nat))(m:Nat):∀n,FnOk P w K mg base (RX.CXe P w) (n+5) f fd ["self","tints","left"] (ZaU cS cT Pt es bs m n)
 |0=>ZfG F T S G es bs m
 |n+1=>ZfF F T S G hbm hC hM bL MN es bs m n (Zeb F T S G hbm hC hM bL MN es bs m n)
end
end My
set_option maxHeartbeats 1000000
namespace L2
open PySem PyProof.Rows
structure FunD(K:PySem.W.Frag)(x qual:Str)(st:Stmt)(f:Addr)(fd:FuncData):Prop where
 ex:∃(oc:Value)(od:Option Addr)(dV kV doc pm:Value)(an:Option Addr)(cdv ct:Value)(osl:Array (Option Value)),
  fd=PySem.W.fnOf x qual (Zv st) (Zj st) (Zd st) dV kV doc pm an cdv ct/\K.lookup f=some ⟨oc,od,.func fd,osl⟩/\PySem.W.codeIn K cdv qual=true
section
variable{P:Program}{w:World}{K:PySem.W.Frag}{mg:Str->Option Value}{base:Heap}{k:Nat}{f:Addr}{fd:FuncData}{ps:List Str}{sp sp':Sp}
theorem FunD.okX{x qual:Str}{st:Stmt}{N:List Str}(F:FunD K x qual st f fd)(S:Zx N ps (Zd st))(len:∀vs H Q E,sp vs H Q E->vs.length=ps.length)
  (hbody:∀(cdv:Value)(A:Around)(outer:List Env)(s:Shared)(H:Hp)(vs:List V)(Q:VK)(E:XK),Room k (A.deeper (envOfC qual (Zd st) s.heap.objs.size f cdv))->sp vs H Q E->
   ∃t,PSs (ZF (RX.CXe P w) P w K mg base N qual (Zd st) f cdv A outer s H E) (Zj st) t/\t {nx:=fun _ H'=>Q .non H',rt:=Q} (start N vs) H):FnOk P w K mg base (RX.CXe P w) (k+1) f fd ps sp:=by
 obtain⟨oc,od,dV,kV,doc,pm,an,cdv,ct,osl,rfl,lk,hcd⟩:=F.ex
 exact ZcU lk hcd S len fun A outer s H vs Q E hr hsp=>hbody cdv A outer s H vs Q E hr hsp
end
end L2
namespace My
open PySem L2 Cs
theorem LfR.snoc{H:Hp}{kvs:List (Key×V)}{lf:List (Nat×List Nat)}(h:LfR H kvs lf){n:Nat}{ls:List Nat}{a:Addr}(e:H a=some (.tup (nl ls))):LfR H (kvs++[(Sum.inl (n:Int),.ref a)]) (lf++[(n,ls)]):=by
 induction h with
 |nil=>exact .cons e .nil
 |cons e' _ ih=>exact .cons e' ih
theorem Jz(n:Nat):bare (List.replicate n none)=List.range n:=by
 unfold bare
 rw[List.length_replicate]
 refine List.filter_eq_self.mpr fun k hk=>?_
 rw[List.getD_eq_getElem?_getD,List.getElem?_replicate]
 split<;>rfl
theorem ZgX(es:List (Nat×Nat))(bs:List (List Nat))(m n k:Nat):lft es bs m (List.replicate n none) k=Zav (bs.getD k []) m:=by
 unfold lft Zav
 refine List.filter_congr fun x _=>?_
 have:tak es (List.replicate n none) k x=false:=by
  cases h:tak es (List.replicate n none) k x with
  |false=>rfl
  |true=>
   obtain⟨j,_,_,h2⟩:=tak_iff.mp h
   rw[List.getD_eq_getElem?_getD,List.getElem?_replicate]at h2
   split at h2<;>cases h2
 rw[this]
 simp
def lfB(bs:List (List Nat))(m i:Nat):List (Nat×List Nat):=(List.range i).map fun k=>(k,Zav (bs.getD k []) m)
theorem ZfS(bs:List (List Nat))(m i:Nat):lfB bs m (i+1)=lfB bs m i++[(i,Zav (bs.getD i []) m)]:=by unfold lfB;rw[List.range_succ,List.map_append];rfl
theorem ZgZ(es:List (Nat×Nat))(bs:List (List Nat))(m n:Nat):lfs es bs m (List.replicate n none)=lfB bs m n:=by
 unfold lfs lfB
 rw[Jz]
 exact List.map_congr_left fun k _=>by rw[ZgX]
theorem ZfT(bs:List (List Nat))(m i:Nat):((lfB bs m i).map fun p=>p.1)=List.range i:=by
 unfold lfB
 rw[List.map_map]
 show(List.range i).map (fun k=>k)=_
 rw[List.map_id']
theorem Zie(k:Nat):(List.replicate k ([.non]:List V)).flatten=tv (List.replicate k none):=by
 induction k with
 |zero=>rfl
 |succ k ih=>rw[List.replicate_succ,List.flatten_cons,ih];rfl
theorem Zci(k:Nat)(a:Addr):(List.replicate k ([.ref a]:List V)).flatten=List.replicate k (.ref a):=by
 induction k with
 |zero=>rfl
 |succ k ih=>rw[List.replicate_succ,List.flatten_cons,ih];rfl
def RowsV(H:Hp)(r:Addr)(bs:List (List Nat)):Prop:=∃rs,H r=some (.tup rs)/\rs.length=bs.length/\∀i,i<bs.length->∃a,rs[i]?=some (.ref a)/\H a=some (.tup (nl (bs.getD i [])))
theorem RowsV.keep{H H':Hp}{r:Addr}{bs:List (List Nat)}(h:RowsV H r bs)(k:Yz H H'):RowsV H' r bs:=let⟨rs,a,b,c⟩:=h;⟨rs,k _ _ a,b,fun i hi=>let⟨d,e,f⟩:=c i hi;⟨d,e,k _ _ f⟩⟩
def Rows(H:Hp)(bv:V)(bs:List (List Nat)):Prop:=(bv= .non/\∀b∈bs,b=[])\/∃r,bv= .ref r/\RowsV H r bs
theorem Rows.keep{H H':Hp}{bv:V}{bs:List (List Nat)}(h:Rows H bv bs)(k:Yz H H'):Rows H' bv bs:=h.elim .inl fun⟨r,e,h⟩=> .inr ⟨r,e,h.keep k⟩
def num(es:List (Nat×Nat))(bs:List (List Nat))(m:Nat):Nat:=(go es bs m es.length (List.replicate es.length none)).2
abbrev Zc3(es:List (Nat×Nat))(bs:List (List Nat))(m:Nat)(H:Hp)(v:V):Prop:=ResAt es bs m H es.length (List.replicate es.length none) v
section
variable{P:Program}{w:World}{K:PySem.W.Frag}{mg:Str->Option Value}{base:Heap}{cS cT Pt c:Addr}
abbrev sSe:Stmt:=top 20
abbrev nSe:List Str:=["net","many","barred","most","ties","rows","left"]
abbrev seS:Scope:=Zcx (Ze8 (Jl 20 3))
theorem scSe:Zx nSe ["net","many","barred","most"] (Zd sSe):=⟨rfl,rfl,rfl,by decide+kernel,rfl,by decide+kernel,by decide+kernel⟩
theorem ZjS:(["tie","row","many"]:List Str).Nodup:=by decide+kernel
theorem Zko{f:Addr}{cdv:Value}{A:Around}{outer:List Env}{s:Shared}{H:Hp}{E:XK}:
  Blk (ZF (RX.CXe P w) P w K mg base nSe "search" (Zd sSe) f cdv A outer s H E).nox seS [("many",s.heap.objs.size+1)] ["tie","row","many"] [none,none,some 1]:=by
 refine⟨rfl,rfl,by decide+kernel,by decide+kernel,fun p hp=>?_,fun y hy e=>?_,⟨rfl,rfl,rfl⟩,trivial⟩
 ·rw[List.mem_singleton.mp hp]
  rfl
 ·have hy':y∈[((PySem.Str.ofString ".0":Str),NameKind.local),(PySem.Str.ofString "tie",.local),(PySem.Str.ofString "row",.local),(PySem.Str.ofString "not_barred",.globalImplicit),(PySem.Str.ofString "many",.free)]:=hy
  simp only[List.mem_cons,List.not_mem_nil,or_false]at hy'
  rcases hy' with rfl|rfl|rfl|rfl|rfl<;>first|rfl|cases e
def ZhW(cT Pt:Addr):Sp:=fun vs H Q E=>∃(p:Addr)(n:Nat)(q:Addr)(ts:List V)(es:List (Nat×Nat))(m mo:Nat)(bv:V)(bs:List (List Nat)),vs=[.ref p,.int (m:Int),bv,.int (mo:Int)]/\NetZ H p n q ts es/\m<=1000/\bs.length=es.length/\(∀b∈bs,b.length<=1000)/\Rows H bv bs/\Y8 Pt H/\
 (40<es.length->∀H' dx,Same H H'->H' dx=none->E (.ref cT) (some dx) (upd H' dx (.xd [("most",.int 40)])))/\
 (es.length<=40->(num es bs m<=mo->∀H' v,Gr Pt lpos ZbH H H'->Zc3 es bs m H' v->Q v H')/\(mo<num es bs m->∀H' dx,Gr Pt lpos ZbH H H'->H' dx=none->E (.ref cT) (some dx) (upd H' dx (.xd [("most",.int (mo:Int))]))))
theorem Zjz{f fi fl:Addr}{fd fdi fdl:FuncData}{t40:Tok}(F:FunD K "search" "search" sSe f fd)(T:Bi mg)(hen:mg "enumerate"=none)(S:SrC K cS)(G:Grt P w K mg base cT)(m40:mg "MOST_SEARCH_TIES"=some (.int 40 t40))(hcS:mg "Search"=some (.ref cS))(M:Mk K cS fi)
  (FI:FnOk P w K mg base CX0 2 fi fdi ["self","net","most"] (Zje cS))(bI:L2.Binds K fdi ["self","net","most"] [])(FB:FnE P w K mg base "not_barred" ["many","row"] 1 spNb)
  (hM:ZdL K cS "look" fl)(bL:L2.Binds K fdl ["self","tints","left"] [])(FL:∀es bs m n,FnOk P w K mg base (RX.CXe P w) (n+5) fl fdl ["self","tints","left"] (ZaU cS cT Pt es bs m n)):
  FnOk P w K mg base (RX.CXe P w) 46 f fd ["net","many","barred","most"] (ZhW cT Pt):=by
 refine F.okX (k:=45) scSe (fun vs H Q E h=>?_) (fun cdv A outer s H vs Q E hr h=>?_)
 ·obtain⟨p,n,q,ts,es,m,mo,bv,bs,rfl,_⟩:=h
  rfl
 ·obtain⟨p,n,qa,ts,es,m,mo,bv,bs,rfl,N,hm,hbl,hb1,R,hT,qx,qn⟩:=h
  obtain⟨D,fI,fdI,xc,hi,hfn,FX,bX⟩:=G.ex
  have hr1:Room 1 _:=hr.mono (by omega)
  have hr3:Room 3 _:=hr.mono (by omega)
  have hlen:=N.len
  have hl200:=N.l200
  by_cases h40:40<es.length
  ·refine⟨_,Zb (PS.nox (Zm (i:=4) scSe.nd rfl (Or.inl rfl) (Zn Zk rfl T.len Ye (Ze (Zo Zl (pv 0) Zc (fun _ _=>rfl)) Za))))
    (Zb (Z3 (PT.nox (Zi Za6 (pv 4) (Y4 (v:= .int 40) rfl m40 ⟨_,rfl⟩) (Zp _))) (Zh (RX.J7 xc hi hfn (FX.mono (j:=1) (k:=44) (by omega)) hr bX rfl G.at_ (Ze (Y4 (v:= .int 40) rfl m40 ⟨_,rfl⟩) Za) rfl rfl rfl (fun _ _ h=>h))) Zr)
    Zw),?_⟩
   refine⟨_,rfl,p,_,_,_,rfl,rfl,SqT.of N.e1,rfl,qa,ts,rfl,.inr (SqT.of N.e2),?_⟩
   refine⟨_,rfl,_,_,rfl,rfl,_,rfl,?_⟩
   refine ZQ (fun _=>⟨_,rfl,fun dx hdx=>qx h40 H dx (Same.refl H) hdx⟩) (fun z=>absurd (decide_eq_true (by omega)) z)
  ·obtain⟨qn1,qn2⟩:=qn (by omega)
   obtain⟨t,ht,hq⟩:∃t,PSs (ZF (RX.CXe P w) P w K mg base nSe "search" (Zd sSe) f cdv A outer s H E) ((Zj sSe).drop 3) t/\∀(G:Hp)(r:Addr),Same H G->RowsV G r bs->t {nx:=fun _ H'=>Q .non H',rt:=Q} [some (.ref p),some (.int (m:Int)),some bv,some (.int (mo:Int)),some (.int (es.length:Int)),some (.ref r),none] G:=by
    refine⟨_,Zb (PS.nox (Zm (i:=6) scSe.nd rfl (Or.inl rfl) (Z9 (Zb0 hr) rfl T.dict Zgp (Ze (Zf0 Zko rfl rfl hen (Ze (pv 5) Za) (ZN (ZJ 5) Yc) rfl
      (fun C fp s H=>ZdV (K:=K) (n:=2) rfl rfl (@Yp _ _ _ _ _ (Zt (i:=0) ZjS rfl (Or.inl rfl) (hf:=Or.inr rfl)) (@Yp _ _ _ _ _ (Zt (i:=1) ZjS rfl (Or.inl rfl) (hf:=Or.inr rfl)) JU rfl) rfl) rfl rfl)
      (fun C fp s H=>YK) (fun C fp s H=>Zu (Ze (pv 0) (Ze (Z0 FB hr1 (Ze (pv 2) (Ze (pv 1) Za))) Za)))) Za))))
     (Zh (Z2 (Zcl (ZgG M FI hr3 rfl hcS bI .nil Zf7 (Ze (pv 0) (Ze (pv 3) Za))) S.cl hM ((FL es bs m es.length).mono (k:=45) (by omega)) hr bL .nil (RX.ZcG fun _ _ _ z=>z)
      (Ze (Zq ZdY (Zu (Ze Yj Za)) (pv 4)) (Ze (pv 6) Za))))),fun G r sG RG=>?_⟩
    obtain⟨rs,hr0,hrl,hra⟩:=RG
    refine⟨_,rfl,r,rs,rfl,SqT.of hr0,by omega,fun i ys σ G'=>Same G G'/\(∃ps,Prs G' ys ps/\LfR G' ps (lfB bs m i))/\∃v0 v1,σ=[v0,v1,some (.int (m:Int))],⟨Same.refl G,⟨[],⟨rfl,fun i y pr e=>by cases e⟩,.nil⟩,none,none,rfl⟩,fun i ys σ G' hi⟨e1,⟨ps,e2,e4⟩,_⟩=>?_,fun i x ys σ G1 hx⟨e1,⟨ps,e2,e4⟩,v0,v1,e3⟩ Tt G2 s2 hT2=>?_,fun ys σ G1⟨e1,⟨ps,e2,e4⟩,_⟩ l G2 s2 hl=>?_⟩
    ·refine⟨SqT.of (e1 _ _ hr0),?_⟩
     rw[e2.1,e4.len]
     unfold lfB
     rw[List.length_map,List.length_range]
     exact Nat.le_refl _
    ·subst e3
     have hi:i<bs.length:=by have:=(List.getElem?_eq_some_iff.mp hx).1;omega
     obtain⟨a,ha1,ha2⟩:=hra i hi
     rw[hx]at ha1
     cases ha1
     have ha3:=s2 _ _ (e1 _ _ ha2)
     have hmem:bs.getD i []∈bs:=by rw[List.getD_eq_getElem?_getD,List.getElem?_eq_getElem hi];exact List.getElem_mem hi
     refine⟨Tt,_,rfl,SqT.of hT2,rfl,_,_,rfl,_,_,rfl,rfl,?_⟩
     refine⟨_,rfl,_,rfl,_,rfl,m,a,_,rfl,ha3,hm,hb1 _ hmem,fun G3 t3 s3 h3=>⟨rfl,fun b G4 s4 hb=>⟨Same.trans e1 (Same.trans s2 (Same.trans s3 s4)),⟨ps++[(Sum.inl (i:Int),.ref t3)],?_,?_⟩,_,_,rfl⟩⟩⟩
     ·exact(e2.same (Same.trans s2 (Same.trans s3 s4))).snoc (k:=Sum.inl (i:Int)) hb
     ·rw[ZfS]
      exact(e4.keep (Same.keepT (Same.trans s2 (Same.trans s3 s4)))).snoc (s4 _ _ h3)
    ·have e5:=e2.same s2
     have e6:=e4.keep (Same.keepT s2)
     rw[hrl]at e6
     have hpl:=e6.len
     have hll:(lfB bs m bs.length).length=bs.length:=by unfold lfB;rw[List.length_map,List.length_range]
     refine⟨l,ys,ps,rfl,SqL.of hl,e5.1,by rw[e5.1];omega,e5.2,fun d G3 s3 hdn hd=>?_⟩
     rw[Zb7 (by
      rw[e6.keys]
      have:=ZfT bs m bs.length
      have e:((lfB bs m bs.length).map fun p=>(p.1:Int))=(List.range bs.length).map fun k:Nat=>(k:Int):=by rw[<-this,List.map_map];rfl
      rw[e,List.map_map,List.nodup_iff_pairwise_ne,List.pairwise_map]
      refine(List.nodup_iff_pairwise_ne.mp List.nodup_range).imp fun{a b} h z=>h ?_
      have h2:(a:Int)=(b:Int):=Sum.inl.inj z
      omega)]at hd
     have sG3:Same H G3:=Same.trans sG (Same.trans e1 (Same.trans s2 s3))
     have N3:=N.same sG3
     refine⟨_,rfl,_,rfl,fun sf dx hsf hdx hne=>?_⟩
     have s4a:Same G3 (upd G3 dx (.own sf)):=Zs hdx
     have s4:Same G3 (upd (upd G3 dx (.own sf)) sf (.ins cS dx [])):=Same.trans s4a (Zs (by rw[Zg (Ne.symm hne)];exact hsf))
     refine⟨sf,p,dx,(mo:Int),n,qa,ts,es,rfl,Zf,N3.same s4,fun G5 l5 ok5 hs5 N5=>⟨rfl,sf,dx,_,rfl,hs5,rfl,rfl,fun b G6 s6 hb=>⟨_,rfl,b,es.length,[.non],rfl,rfl,hb,by omega,by simp,by simp only[List.length_cons,List.length_nil];omega,fun tq G7 s7 h7=>?_⟩⟩⟩
     rw[Zie]at h7
     have ok3:∀b o,G3 b=some o->G5 b=some o:=fun b o e=>ok5 b o (fun z=>by rw[z,hsf]at e;cases e) (s4 _ _ e)
     have s37:Same G3 G7:=fun b o e=>s7 _ _ (s6 _ _ (ok3 b o e))
     have s57:Same G5 G7:=Same.trans s6 s7
     have sH7:Same H G7:=Same.trans sG3 s37
     have hsH:H sf=none:=Same.none sG3 hsf
     have N7:Nrs G7 l5 es:=N5.same fun b o e _=>s57 _ _ e
     have gr:∀{H':Hp},Lk Pt sf G7 H'->Gr Pt lpos ZbH H H':=fun{H'} a=>⟨fun b o e hb=>a.keep b o hb (fun z=>by rw[z,hsH]at e;cases e) (sH7 _ _ e),a.tab⟩
     have L7:LfR G7 ps (lfs es bs m (List.replicate es.length none)):=by
      rw[ZgZ,<-hbl]
      exact(e6.keep (Same.keepT s3)).keep (Same.keepT s37)
     refine⟨_,rfl,sf,tq,d,dx,l5,0,mo,List.replicate es.length none,ps,rfl,s57 _ _ hs5,N7,hl200,hm,h7,List.length_replicate ..,s37 _ _ hd,L7,by rw[Jz,List.length_range];exact Nat.le_refl _,hT.same sH7,fun hle H' v lk hs' rr=>?_,fun hgt H' dx' lk hdx'=>?_⟩
     ·rw[Nat.zero_add]at hle
      exact qn1 hle H' v (gr lk) rr
     ·rw[Nat.zero_add]at hgt
      exact qn2 hgt H' dx' (gr lk) hdx'
   refine⟨_,Zb (PS.nox (Zm (i:=4) scSe.nd rfl (Or.inl rfl) (Zn Zk rfl T.len Ye (Ze (Zo Zl (pv 0) Zc (fun _ _=>rfl)) Za))))
    (Zb (Z3 (PT.nox (Zi Za6 (pv 4) (Y4 (v:= .int 40) rfl m40 ⟨_,rfl⟩) (Zp _))) Zw Zr)
    (Zb (PS.nox (Zm (i:=5) scSe.nd rfl (Or.inl rfl) (Zf1 (Zi JM (pv 2) Yj (Zp _)) (Zq ZdY (Zu (Ze (Zu Za) Za)) (pv 4)) (pv 2)))) ht)),?_⟩
   refine⟨_,rfl,p,_,_,_,rfl,rfl,SqT.of N.e1,rfl,qa,ts,rfl,.inr (SqT.of N.e2),?_⟩
   rw[hlen]
   refine⟨_,rfl,_,_,rfl,rfl,_,rfl,?_⟩
   refine ZQ (fun z=>absurd (of_decide_eq_true z) (by omega)) (fun _=>?_)
   rcases R with⟨rfl,hbs⟩|⟨r,rfl,RV⟩
   ·refine⟨_,rfl,rfl,_,rfl,Yr ⟨rfl,fun a G1 s1 h1=>⟨rfl,fun b G2 s2 h2=>⟨_,rfl,b,es.length,[.ref a],rfl,rfl,h2,by omega,by simp,by simp only[List.length_cons,List.length_nil];omega,fun r G3 s3 h3=>hq G3 r (Same.trans s1 (Same.trans s2 s3)) ⟨_,h3,?_,fun i hi=>⟨a,?_,?_⟩⟩⟩⟩⟩⟩
    ·rw[Zci,List.length_replicate,hbl]
    ·rw[Zci,List.getElem?_replicate,if_pos (by omega)]
    ·rw[hbs (bs.getD i []) (by rw[List.getD_eq_getElem?_getD,List.getElem?_eq_getElem hi];exact List.getElem_mem hi)]
     exact s3 _ _ (s2 _ _ h1)
   ·exact⟨_,rfl,rfl,_,rfl,Zy ⟨_,rfl,hq H r (Same.refl H) RV⟩⟩
end
end My
set_option maxHeartbeats 1000000
namespace My
open PySem L2 Cs
def rowAt(es:List (Nat×Nat))(x m k:Nat):List Nat:=if atB (es.getD k (0,0)) x then(List.range m).filter (fun t=>t !=(Z4 es x k).length)else[]
def ZW(es:List (Nat×Nat))(x m:Nat):List (List Nat):=(List.range es.length).map (rowAt es x m)
theorem Jy(es:List (Nat×Nat))(x m:Nat):(ZW es x m).length=es.length:=by unfold ZW;rw[List.length_map,List.length_range]
theorem Zah{es:List (Nat×Nat)}{x m k:Nat}(h:k<es.length):(ZW es x m).getD k []=rowAt es x m k:=by
 unfold ZW
 rw[List.getD_eq_getElem?_getD,List.getElem?_map,List.getElem?_range h]
 rfl
theorem Zc1{es:List (Nat×Nat)}{x m:Nat}(hm:m<=1000):∀b∈ZW es x m,b.length<=1000:=by
 intro b hb
 obtain⟨k,_,rfl⟩:=List.mem_map.mp hb
 unfold rowAt
 split
 ·exact Nat.le_trans (List.length_filter_le _ _) (by rw[List.length_range];exact hm)
 ·exact Nat.zero_le _
theorem Zfd{es:List (Nat×Nat)}{x:Nat}:∀{n i k:Nat},(Z4 es x n)[i]?=some k->(Z4 es x k).length=i/\k<n/\At (es.getD k (0,0)) x:=by
 intro n
 induction n with
 |zero=>intro i k h;cases h
 |succ n ih=>
  intro i k h
  by_cases hn:At (es.getD n (0,0)) x
  ·rw[YX hn]at h
   by_cases hi:i<(Z4 es x n).length
   ·rw[List.getElem?_append_left hi]at h
    obtain⟨a,b,c⟩:=ih h
    exact⟨a,by omega,c⟩
   ·have:=(List.getElem?_eq_some_iff.mp h).1
    rw[List.length_append]at this
    have e:i=(Z4 es x n).length:=by simp only[List.length_cons,List.length_nil]at this;omega
    subst e
    rw[List.getElem?_append_right (Nat.le_refl _),Nat.sub_self]at h
    cases h
    exact⟨rfl,by omega,hn⟩
  ·rw[YW hn]at h
   obtain⟨a,b,c⟩:=ih h
   exact⟨a,by omega,c⟩
theorem ZdJ{es:List (Nat×Nat)}{x:Nat}:∀{j k:Nat},j<=k->(Z4 es x j).length<=(Z4 es x k).length:=by
 intro j k h
 obtain⟨d,rfl⟩:=Nat.exists_eq_add_of_le h
 clear h
 induction d with
 |zero=>exact Nat.le_refl _
 |succ d ih=>
  refine Nat.le_trans ih ?_
  by_cases hn:At (es.getD (j+d) (0,0)) x
  ·rw[show j+(d+1)=j+d+1 from rfl,YX hn,List.length_append]
   exact Nat.le_add_right _ _
  ·rw[show j+(d+1)=j+d+1 from rfl,YW hn]
   exact Nat.le_refl _
theorem Zdf{es:List (Nat×Nat)}{x j k:Nat}(h:j<k)(hj:At (es.getD j (0,0)) x):(Z4 es x j).length<(Z4 es x k).length:=by
 have:=ZdJ (es:=es) (x:=x) (j:=j+1) (k:=k) h
 rw[YX hj,List.length_append]at this
 simp only[List.length_cons,List.length_nil]at this
 omega
theorem Zhw{l:List (Nat×List Nat)}:∀{q p:Nat×List Nat},best l=some q->p∈l->q.2.length<=p.2.length:=by
 refine Zch (P:=fun l=>∀{q p:Nat×List Nat},best l=some q->p∈l->q.2.length<=p.2.length) (fun{q p} h=>by cases h) (fun l a ih{q p} h hp=>?_) l
 rw[YV]at h
 cases hb:best l with
 |none=>
  rw[hb]at h
  cases h
  rw[best_none.mp hb]at hp
  rw[List.mem_singleton.mp hp]
  exact Nat.le_refl _
 |some r=>
  rw[hb]at h
  unfold stp at h
  dsimp only at h
  rcases List.mem_append.mp hp with hp|hp
  ·have:=ih hb hp
   split at h
   ·cases h;omega
   ·cases h;exact this
  ·rw[List.mem_singleton.mp hp]
   split at h
   ·cases h;exact Nat.le_refl _
   ·cases h;omega
structure Ph(es:List (Nat×Nat))(x:Nat)(tl:Tl):Prop where
 len:tl.length=es.length
 ph:(∀j y,tl[j]?=some (some y)->At (es.getD j (0,0)) x/\y=(Z4 es x j).length)\/(∀j,j∈bare tl->¬At (es.getD j (0,0)) x)
theorem Ze3{es:List (Nat×Nat)}{tl:Tl}{k m:Nat}:((List.range m).filter fun y=>tak es tl k y).length<=tl.length:=by
 have h1:((List.range m).filter fun y=>tak es tl k y).Nodup:=List.nodup_range.filter _
 have h2:((List.range m).filter fun y=>tak es tl k y)⊆tl.filterMap id:=by
  intro y hy
  obtain⟨j,hj,_,e⟩:=tak_iff.mp (List.mem_filter.mp hy).2
  refine List.mem_filterMap.mpr ⟨some y,?_,rfl⟩
  rw[List.getD_eq_getElem?_getD,List.getElem?_eq_getElem hj]at e
  rw[<-(show tl[j]=some y from e)]
  exact List.getElem_mem hj
 have sub:∀(l l':List Nat),l.Nodup->l⊆l'->l.length<=l'.length:=by
  intro l
  induction l with
  |nil=>intro l' _ _;exact Nat.zero_le _
  |cons a l ih=>
   intro l' hn hs
   obtain⟨ha,hn'⟩:=List.nodup_cons.mp hn
   have hm:a∈l':=hs (.head _)
   have:=ih (l'.erase a) hn' fun b hb=>(List.mem_erase_of_ne (show b≠a from fun z=>ha (by rw[<-z];exact hb))).mpr (hs (.tail _ hb))
   rw[List.length_erase_of_mem hm]at this
   have hp:=List.length_pos_of_mem hm
   rw[List.length_cons]
   omega
 refine Nat.le_trans (sub _ _ h1 h2) (List.length_filterMap_le _ _)
theorem ZcN{es:List (Nat×Nat)}{x m k:Nat}{tl:Tl}(hl:tl.length=es.length)(hk:k<es.length)(hx:¬At (es.getD k (0,0)) x):m<=(lft es (ZW es x m) m tl k).length+es.length:=by
 have hrow:(ZW es x m).getD k []=[]:=by
  rw[Zah hk]
  unfold rowAt
  rw[if_neg (fun z=>hx (atB_iff.mp z))]
 unfold lft
 rw[hrow]
 have e:(List.range m).filter (fun y=> !([]:List Nat).contains y&& !tak es tl k y)=(List.range m).filter fun y=> !tak es tl k y:=List.filter_congr fun y _=>by simp
 rw[e]
 have h1:=Ze3 (es:=es) (tl:=tl) (k:=k) (m:=m)
 have h2:((List.range m).filter fun y=>tak es tl k y).length+((List.range m).filter fun y=> !tak es tl k y).length=m:=by
  have key:∀(p:Nat->Bool)(l:List Nat),(l.filter p).length+(l.filter fun y=> !p y).length=l.length:=by
   intro p l
   induction l with
   |nil=>rfl
   |cons a l ih=>
    rw[List.filter_cons,List.filter_cons]
    cases p a<;>simp only[Bool.not_true,Bool.not_false,if_true,if_false,Bool.false_eq_true,List.length_cons]<;>omega
  have:=key (fun y=>tak es tl k y) (List.range m)
  rw[List.length_range]at this
  exact this
 rw[hl]at h1
 omega
theorem Zee{es:List (Nat×Nat)}{x m k:Nat}{tl:Tl}(hk:k<es.length)(hx:At (es.getD k (0,0)) x)(hm:(Z4 es x k).length<m)(hb:tl.getD k none=none)(hp:∀j y,tl[j]?=some (some y)->At (es.getD j (0,0)) x/\y=(Z4 es x j).length):lft es (ZW es x m) m tl k=[(Z4 es x k).length]:=by
 unfold lft
 rw[Zah hk]
 unfold rowAt
 rw[if_pos (atB_iff.mpr hx)]
 have e:(List.range m).filter (fun y=> !((List.range m).filter fun t=>t !=(Z4 es x k).length).contains y&& !tak es tl k y)=(List.range m).filter fun y=>y==(Z4 es x k).length:=by
  refine List.filter_congr fun y hy=>?_
  by_cases h:y=(Z4 es x k).length
  ·have h1:((List.range m).filter fun t=>t !=(Z4 es x k).length).contains y=false:=by
    cases z:((List.range m).filter fun t=>t !=(Z4 es x k).length).contains y with
    |false=>rfl
    |true=>
     have:=(List.mem_filter.mp (List.contains_iff_mem.mp z)).2
     rw[h]at this
     simp at this
   have h2:tak es tl k y=false:=by
    cases z:tak es tl k y with
    |false=>rfl
    |true=>
     obtain⟨j,hj,_,e⟩:=tak_iff.mp z
     have e2:tl[j]?=some (some y):=by
      rw[List.getD_eq_getElem?_getD,List.getElem?_eq_getElem hj]at e
      rw[List.getElem?_eq_getElem hj]
      exact congrArg some e
     obtain⟨a1,a2⟩:=hp j y e2
     rcases Nat.lt_trichotomy j k with q|q|q
     ·have:=Zdf q a1
      omega
     ·subst q
      rw[hb]at e
      cases e
     ·have:=Zdf q hx
      omega
   rw[h1,h2,h]
   simp
  ·have h1:((List.range m).filter fun t=>t !=(Z4 es x k).length).contains y=true:=List.contains_iff_mem.mpr (List.mem_filter.mpr ⟨hy,by simpa using h⟩)
   rw[h1]
   simp[h]
 rw[e]
 have key:∀n,(List.range n).filter (fun y=>y==(Z4 es x k).length)=if(Z4 es x k).length<n then[(Z4 es x k).length]else[]:=by
  intro n
  induction n with
  |zero=>rfl
  |succ n ih=>
   rw[List.range_succ,List.filter_append,ih,List.filter_cons]
   by_cases h1:(Z4 es x k).length<n
   ·rw[if_pos h1,if_neg (show¬(n==(Z4 es x k).length)=true by simp only[beq_iff_eq];omega),if_pos (show(Z4 es x k).length<n+1 by omega)]
    rfl
   ·rw[if_neg h1]
    by_cases h2:n=(Z4 es x k).length
    ·rw[if_pos (show(n==(Z4 es x k).length)=true by simp only[beq_iff_eq];exact h2),if_pos (show(Z4 es x k).length<n+1 by omega),<-h2]
     rfl
    ·rw[if_neg (show¬(n==(Z4 es x k).length)=true by simp only[beq_iff_eq];exact h2),if_neg (show¬(Z4 es x k).length<n+1 by omega)]
     rfl
 rw[key,if_pos hm]
theorem Zhf{es:List (Nat×Nat)}{x m:Nat}(hm:es.length+2<=m):∀(n:Nat)(tl:Tl),(bare tl).length<=n->Ph es x tl->∃r,(go es (ZW es x m) m n tl).1=some r:=by
 intro n
 induction n with
 |zero=>intro tl _ _;exact⟨tl,rfl⟩
 |succ n ih=>
  intro tl hb ph
  cases hq:best (lfs es (ZW es x m) m tl)with
  |none=>rw[ZaM hq];exact⟨tl,rfl⟩
  |some q=>
   obtain⟨t,ls⟩:=q
   obtain⟨b1,b2,b3,b4⟩:=ZaO hq
   have hte:t<es.length:=by rw[<-ph.len];exact b2
   rw[Zab hq]
   have step:∀y ys,ls=y::ys->Ph es x (tl.set t (some y))->∃r,(br (go es (ZW es x m) m n) tl t ls 1).1=some r:=fun y ys e ph'=>by
    obtain⟨r,hr⟩:=ih (tl.set t (some y)) (by have:=Zb2 (x:=y) b1;omega) ph'
    obtain⟨r0,k0,hg⟩:∃r0 k0,go es (ZW es x m) m n (tl.set t (some y))=(r0,k0):=⟨_,_,rfl⟩
    rw[hg]at hr
    cases(show r0=some r from hr)
    rw[e,Zc2 hg]
    exact⟨r,rfl⟩
   have at_:∀j y z,(tl.set t (some y))[j]?=some (some z)->(j=t/\z=y)\/(j≠t/\tl[j]?=some (some z)):=fun j y z e=>by
    rw[List.getElem?_set]at e
    by_cases h:t=j
    ·rw[if_pos h,if_pos b2]at e
     exact .inl ⟨h.symm,(Option.some.inj (Option.some.inj e)).symm⟩
    ·rw[if_neg h]at e
     exact .inr ⟨Ne.symm h,e⟩
   have lens:∀y,(tl.set t (some y)).length=es.length:=fun y=>by rw[List.length_set];exact ph.len
   have late:(∀j,j∈bare tl->¬At (es.getD j (0,0)) x)->∃r,(br (go es (ZW es x m) m n) tl t ls 1).1=some r:=fun hB=>by
    have h1:=ZcN (m:=m) ph.len hte (hB t b1)
    rw[<-b4]at h1
    cases hl:ls with
    |nil=>rw[hl]at h1;simp only[List.length_nil]at h1;omega
    |cons y ys=>
     rw[<-hl]
     refine step y ys hl ⟨lens y,.inr fun j hj=>?_⟩
     rw[Zb1 b2]at hj
     exact hB j (List.mem_filter.mp hj).1
   rcases ph.ph with hA|hB
   ·by_cases hex:∃j,j∈bare tl/\At (es.getD j (0,0)) x
    ·obtain⟨j,hj1,hj2⟩:=hex
     obtain⟨hj3,hj4⟩:=bare_mem.mp hj1
     have hje:j<es.length:=by rw[<-ph.len];exact hj3
     have ownlt:∀k,k<es.length->(Z4 es x k).length<m:=fun k hk=>by have:=JC es x k;omega
     have hlj:=Zee hje hj2 (ownlt j hje) hj4 hA
     have hmin:ls.length<=1:=by
      have hmem:(j,lft es (ZW es x m) m tl j)∈lfs es (ZW es x m) m tl:=List.mem_map.mpr ⟨j,hj1,rfl⟩
      have:=Zhw hq hmem
      rw[hlj]at this
      exact this
     have htx:At (es.getD t (0,0)) x:=Classical.byContradiction fun h=>by
      have h1:=ZcN (m:=m) ph.len hte h
      rw[<-b4]at h1
      omega
     have hlt:=Zee hte htx (ownlt t hte) b3 hA
     rw[<-b4]at hlt
     refine step _ [] hlt ⟨lens _,.inl fun i z e=>?_⟩
     rcases at_ i _ z e with⟨rfl,rfl⟩|⟨_,e⟩
     ·exact⟨htx,rfl⟩
     ·exact hA i z e
    ·exact late fun j hj h=>hex ⟨j,hj,h⟩
   ·exact late hB
theorem Zhe{es:List (Nat×Nat)}{x m:Nat}(hm:es.length+2<=m):∃r,(go es (ZW es x m) m es.length (List.replicate es.length none)).1=some r:=
 Zhf hm _ _ (by rw[Jz,List.length_range];exact Nat.le_refl _) ⟨List.length_replicate ..,.inl fun j y e=>by
  rw[List.getElem?_replicate]at e
  split at e<;>cases e⟩
end My
set_option maxHeartbeats 1000000
namespace L2
open PySem PySem.Spec PyProof.Rows
theorem Zge{K:PySem.W.Frag}{a:Addr}{xs:List V}{g:TG}{tb:TS}{D:Ends}{σ:St}{H:Hp}(Pv:Nat->St->Hp->Prop)(h0:Pv 0 σ H)(hl:∀i σ H,i<=xs.length->Pv i σ H->SqT K H a xs)
  (hs:∀(i:Nat) x σ H,xs[i]?=some x->Pv i σ H->∀T H1,Same H H1->H1 T=some (.tup [.int (i:Int),x])->g (.ref T) σ H1 fun σ2 H2=>tb {D with nx:=Pv (i+1),ct:=Pv (i+1),bk:=D.nx} σ2 H2) (hd:∀σ H,Pv xs.length σ H->D.nx σ H):
  ∃W:Nat->Nat->St->Hp->Prop,(∃m,W 0 m σ H)/\∀i m σ H,W i m σ H->
   ((Ite K a).stop i H/\D.nx σ H)\/((Ite K a).go i H/\∃N:St->Hp->Prop,(∀σ' H',N σ' H'->∃m',m'<m/\W (i+1) m' σ' H')/\∀x H',(Ite K a).yld i H x H'->g x σ H' fun σ2 H2=>tb {D with nx:=N,ct:=N,bk:=D.nx} σ2 H2):=by
 refine⟨fun i m σ H=>m=xs.length-i/\i<=xs.length/\Pv i σ H,⟨xs.length,by simp,Nat.zero_le _,h0⟩,?_⟩
 rintro i m σ H ⟨rfl,hi,p⟩
 have q:=hl i σ H hi p
 by_cases hlt:i<xs.length
 ·refine .inr ⟨⟨xs,xs[i],q,by simp[hlt]⟩,Pv (i+1),fun σ' H' p'=>⟨xs.length-(i+1),by omega,rfl,hlt,p'⟩,fun x H' y=>?_⟩
  obtain⟨T,u,rfl,hT,rfl,hu⟩:=y
  exact hs i u σ H (hu xs q) p T _ (ZI hT) Zf
 ·have e:i=xs.length:=by omega
  subst e
  exact .inl ⟨⟨xs,q,Nat.le_refl _⟩,hd σ H p⟩
end L2
namespace My
open PySem L2 Cs
def RowsF(H:Hp)(rs:List V)(f:Nat->List Nat)(N:Nat):Prop:=rs.length=N/\∀k,k<N->∃a,rs[k]?=some (.ref a)/\H a=some (.tup (nl (f k)))
theorem RowsF.keep{H H':Hp}{rs:List V}{f:Nat->List Nat}{N:Nat}(h:RowsF H rs f N)(k:Yz H H'):RowsF H' rs f N:=⟨h.1,fun i hi=>let⟨a,b,c⟩:=h.2 i hi;⟨a,b,k _ _ c⟩⟩
theorem RowsF.set{H:Hp}{rs:List V}{f g:Nat->List Nat}{N j:Nat}{b:Addr}(h:RowsF H rs f N)(hj:j<N)(hb:H b=some (.tup (nl (g j))))(hg:∀k,k≠j->g k=f k):RowsF H (rs.set j (.ref b)) g N:=by
 refine⟨by rw[List.length_set];exact h.1,fun k hk=>?_⟩
 by_cases e:k=j
 ·subst e
  exact⟨b,by rw[List.getElem?_set,if_pos rfl,if_pos (by rw[h.1];exact hk)],hb⟩
 ·obtain⟨a,a1,a2⟩:=h.2 k hk
  exact⟨a,by rw[List.getElem?_set,if_neg (Ne.symm e)];exact a1,by rw[hg k e];exact a2⟩
theorem RowsF.rowsV{H:Hp}{r:Addr}{rs:List V}{es:List (Nat×Nat)}{x m:Nat}(h:RowsF H rs (rowAt es x m) es.length)(hr:H r=some (.tup rs)):RowsV H r (ZW es x m):=
 ⟨rs,hr,by rw[Jy];exact h.1,fun i hi=>by
  rw[Jy]at hi
  rw[Zah hi]
  exact h.2 i hi⟩
def Zdu(es:List (Nat×Nat))(x m i k:Nat):List Nat:=if((ats es x).take i).contains k then rowAt es x m k else[]
theorem Zfr(es:List (Nat×Nat))(x m:Nat){k:Nat}(hk:k<es.length):Zdu es x m (ats es x).length k=rowAt es x m k:=by
 unfold Zdu
 rw[List.take_length]
 by_cases h:(ats es x).contains k=true
 ·rw[if_pos h]
 ·rw[if_neg h]
  unfold rowAt
  rw[if_neg]
  intro z
  refine h (List.contains_iff_mem.mpr ?_)
  unfold ats
  exact List.mem_filter.mpr ⟨List.mem_range.mpr hk,z⟩
def Zcp(o i:Nat):List Nat:=(List.range i).filter fun t=>t !=o
theorem ZcK(o i:Nat):(Zcp o i).length<=i:=Nat.le_trans (List.length_filter_le _ _) (by rw[List.length_range];exact Nat.le_refl _)
section
variable{P:Program}{w:World}{K:PySem.W.Frag}{mg:Str->Option Value}{base:Heap}
abbrev sBt:Stmt:=top 21
abbrev nBt:List Str:=["net","point","many","rows","own","tie"]
def btC:List Stmt->Scope
 |[.Assign _ e _]=>Zcx e
 |_=>{kind:= .function,names:=[],isGenerator:=false,isCoroutine:=false}
abbrev btS:Scope:=btC (Zhj (Jl 21 1))
theorem scBt:Zx nBt ["net","point","many"] (Zd sBt):=⟨rfl,rfl,rfl,by decide+kernel,rfl,by decide+kernel,by decide+kernel⟩
theorem Zlv:(["tint","own"]:List Str).Nodup:=by decide+kernel
theorem Zk1{f:Addr}{cdv:Value}{A:Around}{outer:List Env}{s:Shared}{H:Hp}{E:XK}:
  Blk (ZF CX0 P w K mg base nBt "barred_at" (Zd sBt) f cdv A outer s H E).nox btS [("own",s.heap.objs.size+1)] ["tint","own"] [none,some 4]:=by
 refine⟨rfl,rfl,by decide+kernel,by decide+kernel,fun p hp=>?_,fun y hy e=>?_,⟨rfl,rfl,rfl⟩,trivial⟩
 ·rw[List.mem_singleton.mp hp]
  rfl
 ·have hy':y∈[((PySem.Str.ofString ".0":Str),NameKind.local),(PySem.Str.ofString "tint",.local),(PySem.Str.ofString "own",.free)]:=hy
  simp only[List.mem_cons,List.not_mem_nil,or_false]at hy'
  rcases hy' with rfl|rfl|rfl<;>first|rfl|cases e
def spBt:Sp:=fun vs H Q _=>∃(p:Addr)(n:Nat)(q:Addr)(ts:List V)(es:List (Nat×Nat))(x m:Nat),vs=[.ref p,.int (x:Int),.int (m:Int)]/\NetZ H p n q ts es/\m<=1000/\∀H' r,Same H H'->RowsV H' r (ZW es x m)->Q (.ref r) H'
theorem ZjI{f:Addr}{fd:FuncData}(F:Fun K "barred_at" "barred_at" sBt f fd)(T:Bi mg)(hen:mg "enumerate"=none)(FA:FnE P w K mg base "ties_at" ["net","point"] 1 spAt):FnOk P w K mg base CX0 2 f fd ["net","point","many"] spBt:=by
 refine F.ok scBt (fun vs H Q E h=>?_) (fun cdv A outer s H vs Q E hr h=>?_)
 ·obtain⟨p,n,q,ts,es,x,m,rfl,_⟩:=h
  rfl
 ·obtain⟨p,n,qa,ts,es,x,m,rfl,N,hm,q⟩:=h
  have hlen:=N.len
  have hl2:=N.l200
  refine⟨_,Zb (Zm (i:=3) scBt.nd rfl (Or.inl rfl) (Zq ZfB (Yb (Ze (Zu Za) Za)) (Zn Zk rfl T.len Ye (Ze (Zo Zl (pv 0) Zc (fun _ _=>rfl)) Za))))
   (Zb (ZZ PassesOwn.never rfl (ZdU rfl hen (Ze (Z0 FA hr (Ze (pv 0) (Ze (pv 1) Za))) Za) rfl) (Zd0 rfl (Yp (Zt (i:=4) scBt.nd rfl (Or.inr rfl)) (Yp (Zt (i:=5) scBt.nd rfl (Or.inl rfl)) JU)))
    (Zh (JH (Z9 ZA rfl T.tuple Yh (Ze (Zau Zk1 rfl rfl T.range (Ze (pv 2) Za) (ZN (ZJ 2) Yc) rfl (fun C fp s H=>Zt (i:=0) Zlv rfl (Or.inl rfl) (hf:=Or.inr rfl)) (fun C fp s H=>Yv (Zi YI (pv 0) (pv 1) rfl)) (fun C fp s H=>pv 0)) Za)) (Zba (pv 3) (pv 5) set_list))))
   (Zh (Z2 (Z9 ZA rfl T.tuple Yh (Ze (pv 3) Za))))),?_⟩
  refine⟨rfl,fun e0 H0 s0 he0=>⟨rfl,fun l0 H1 s1 hl0=>?_⟩⟩
  have s01:=Same.trans s0 s1
  refine⟨_,rfl,p,_,_,_,rfl,rfl,SqT.of (s01 _ _ N.e1),rfl,qa,ts,rfl,.inr (SqT.of (s01 _ _ N.e2)),l0,_,_,rfl,rfl,hl0,by omega,by omega,?_,fun B hB=>?_⟩
  ·rw[Int.toNat_natCast]
   exact Yq (by simp only[List.length_cons,List.length_nil];omega)
  rw[Int.toNat_natCast,hlen,Zci]
  have sB:Same H1 (upd H1 B (.lst (List.replicate es.length (.ref e0)))):=Zs hB
  have sHB:Same H (upd H1 B (.lst (List.replicate es.length (.ref e0)))):=Same.trans s01 sB
  have hB0:H B=none:=Same.none s01 hB
  refine⟨_,rfl,_,rfl,p,n,qa,ts,es,x,rfl,N.same sHB,fun G2 tt s2 htt=>⟨tt,rfl,⟨_,SqT.of htt⟩,?_⟩⟩
  have hB2:G2 B=some (.lst (List.replicate es.length (.ref e0))):=s2 _ _ Zf
  refine Zge (K:=K) (a:=tt) (xs:=nl (ats es x)) (fun i σ G=>∃(v4 v5:Option V)(rs:List V),σ=[some (.ref p),some (.int (x:Int)),some (.int (m:Int)),some (.ref B),v4,v5]/\Yz G2 G/\(∀b o,H b=some o->G b=some o)/\G B=some (.lst rs)/\RowsF G rs (Zdu es x m i) es.length)
   ⟨_,_,_,rfl,fun _ _ e=>e,fun b o e=>s2 _ _ (sHB _ _ e),hB2,List.length_replicate ..,fun k hk=>⟨e0,by rw[List.getElem?_replicate,if_pos hk],?_⟩⟩ (fun i σ G _⟨_,_,_,_,kt,_⟩=>SqT.of (kt _ _ htt)) (fun i y σ G hx⟨v4,v5,rs,e,kt,sG,hG,R⟩ Tt G3 s3 hT3=>?_) (fun σ G⟨v4,v5,rs,e,kt,sG,hG,R⟩=>?_)
  ·show G2 e0=some (.tup (nl (if(([]:List Nat)).contains k then _ else[])))
   exact s2 _ _ (sB _ _ (s1 _ _ he0))
  ·subst e
   obtain⟨k0,hk0,rfl⟩:=ZcJ hx
   obtain⟨a1,a2,a3⟩:=Zfd (n:=es.length) (show(Z4 es x es.length)[i]?=some k0 from hk0)
   refine⟨Tt,_,rfl,SqT.of hT3,rfl,_,_,rfl,_,_,rfl,rfl,?_⟩
   refine⟨_,rfl,m,rfl,by omega,fun j ys σ G'=>Same G3 G'/\ys=nl (Zcp i j)/\∃v0,σ=[v0,some (.int (i:Int))],⟨Same.refl _,rfl,none,rfl⟩,fun j ys σ G' hj⟨_,e2,_⟩=>by rw[e2,Z8];exact ZcK _ _,fun j ys σ G' hj⟨f1,f2,v0,f3⟩=>?_,fun ys σ G'⟨f1,f2,_⟩ l2 G4 s4 hl2=>?_⟩
   ·subst f2 f3
    rw[Int.zero_add]
    refine⟨_,rfl,_,rfl,rfl,?_⟩
    by_cases z:j=i
    ·subst z
     refine⟨_,rfl,?_⟩
     rw[decide_eq_true rfl]
     refine Zy ⟨f1,?_,_,rfl⟩
     unfold Zcp
     rw[List.range_succ,List.filter_append,List.filter_cons,if_neg (by simp)]
     simp
    ·refine⟨_,rfl,?_⟩
     rw[decide_eq_false (fun q=>z (by have:=V.int.inj q;omega))]
     refine Yr ⟨_,rfl,f1,?_,_,rfl⟩
     rw[Je]
     unfold Zcp
     rw[List.range_succ,List.filter_append,List.filter_cons,if_pos (by simpa using z)]
     rfl
   ·subst f2
    refine⟨l2,_,rfl,.inl hl2,fun b G5 s5 hb=>?_⟩
    have s35:Same G G5:=Same.trans s3 (Same.trans f1 (Same.trans s4 s5))
    have hG5:=s35 _ _ hG
    refine⟨_,rfl,_,rfl,B,rs,(k0:Int),k0,rfl,rfl,hG5,?_,_,_,_,rfl,fun c xs e=>?_,fun c o e=>?_,Zf,?_⟩
    ·rw[R.1]
     unfold ixN
     rw[if_pos (by omega),if_pos (by omega)]
     simp
    ·rw[Zg fun z=>by
      have h5:=s35 _ _ (kt _ _ e)
      rw[z,hG5]at h5
      cases h5]
     exact s35 _ _ (kt _ _ e)
    ·rw[Zg fun z=>by rw[z,hB0]at e;cases e]
     exact s35 _ _ (sG _ _ e)
    ·have hrow:Zdu es x m (i+1) k0=Zcp i m:=by
      unfold Zdu
      rw[J9 hk0,if_pos (List.contains_iff_mem.mpr (List.mem_append_right _ (.head _)))]
      unfold rowAt Zcp
      rw[if_pos (atB_iff.mpr a3),a1]
     have R5:=(R.keep (Same.keepT s35)).set (g:=Zdu es x m (i+1)) (b:=b) a2 (by rw[hrow];exact hb) (fun k hk=>by
      unfold Zdu
      have hc:((ats es x).take (i+1)).contains k=((ats es x).take i).contains k:=by
       rw[J9 hk0,Bool.eq_iff_iff,List.contains_iff_mem,List.contains_iff_mem,List.mem_append,List.mem_singleton]
       exact⟨fun z=>z.resolve_right hk,.inl⟩
      rw[hc])
     refine R5.keep fun c xs e=>?_
     rw[Zg fun z=>by rw[z,hG5]at e;cases e]
     exact e
  ·subst e
   rw[Z8]at R
   refine⟨_,rfl,B,rs,rfl,.inl hG,fun r G6 s6 h6=>q G6 r (fun b o e=>s6 _ _ (sG _ _ e)) (RowsF.rowsV ⟨R.1,fun k hk=>?_⟩ h6)⟩
   obtain⟨a,b1,b2⟩:=R.2 k hk
   rw[Zfr es x m hk]at b2
   exact⟨a,b1,s6 _ _ b2⟩
end
end My
set_option maxHeartbeats 1000000
namespace My
open PySem L2 Cs
abbrev GrL(Pt:Addr)(H H':Hp):Prop:=Gr Pt lpos ZbH H H'
theorem GrL.keepT{Pt:Addr}{H H':Hp}(g:GrL Pt H H')(t:Y8 Pt H):Yz H H':=fun b xs e=>g.keep b _ e fun z=>by
 obtain⟨ps,h⟩:=TabI.tbl t (show H Pt=some _ by rw[<-z];exact e)
 cases h
theorem NetZ.keepT{H H':Hp}{p q:Addr}{n:Nat}{ts:List V}{es:List (Nat×Nat)}(h:NetZ H p n q ts es)(k:Yz H H'):NetZ H' p n q ts es:=
 ⟨k _ _ h.e1,k _ _ h.e2,h.len,fun i t e=>let⟨a,x,y⟩:=h.tie i t e;⟨a,x,k _ _ y⟩,h.l200,h.n60,h.ok⟩
theorem ResAt.keep{es:List (Nat×Nat)}{bs:List (List Nat)}{m n:Nat}{tl:Tl}{H H':Hp}{v:V}(h:ResAt es bs m H n tl v)(k:Yz H H'):ResAt es bs m H' n tl v:=by
 cases e:(go es bs m n tl).1 with
 |none=>
  obtain⟨a,y,rfl,ha,hy⟩:=h.case e
  exact ResAt.of_case e ⟨a,y,rfl,k _ _ ha,hy.keep k⟩
 |some r=>
  obtain⟨a,b,rfl,ha,hb⟩:=h.full e
  exact ResAt.of_full e ⟨a,b,rfl,k _ _ ha,k _ _ hb⟩
abbrev nm(es:List (Nat×Nat))(x k:Nat):Nat:=num es (ZW es x k) k
abbrev gx(es:List (Nat×Nat))(x k:Nat):Option Tl:=(go es (ZW es x k) k es.length (List.replicate es.length none)).1
def Cas(es:List (Nat×Nat))(x mo N k:Nat):Prop:=∀j,N<=j->j<k->nm es x j<=mo/\gx es x j=none
theorem Zem{es:List (Nat×Nat)}{x k:Nat}(h:gx es x k=none):k<es.length+2:=by
 by_cases hk:es.length+2<=k
 ·obtain⟨r,hr⟩:=Zhe (es:=es) (x:=x) hk
  have:gx es x k=some r:=hr
  rw[h]at this
  cases this
 ·omega
def FewAt(H:Hp)(es:List (Nat×Nat))(n:Nat)(M:Int)(x N:Nat)(o:Option (List Nat))(k:Nat)(r:Tl)(v:V):Prop:=∃(u tb:Addr)(pv:V),v= .ref u/\H u=some (.tup [.int (k:Int),.ref tb,pv])/\H tb=some (.tup (tv r))/\
 ((k=N/\PapO H es n M o pv/\Pap H es n M (N:Int) pv)\/(N<k/\Zc3 es (ZW es x (k-1)) (k-1) H pv))
theorem ZiO{es:List (Nat×Nat)}{l:List Nat}{n:Nat}(hn:n<=9)(h:l∈parts n):Zb3 es l<=es.length+9:=by
 have hl:l.length<=n:=Y0 n l (List.mem_filter.mp h).1
 unfold Zb3 half
 refine Nat.le_trans (Nat.div_le_self _ _) ?_
 have:=Zcu es l es.length
 omega
theorem Pap.le{H:Hp}{es:List (Nat×Nat)}{n:Nat}{M N:Int}{v:V}(hn:n<=9)(hM:M<=es.length)(h:Pap H es n M N v):N<=es.length+9:=by
 rcases h with⟨e,_⟩|⟨_,u,t,l,_,_,_,hl,e⟩
 ·omega
 ·have:=ZiO (es:=es) hn hl
  omega
theorem Pap.tk{H H':Hp}{es:List (Nat×Nat)}{n:Nat}{M N:Int}{v:V}(h:Pap H es n M N v)(s:Yz H H'):Pap H' es n M N v:=by
 rcases h with⟨a,u,x,b,c,d⟩|⟨a,u,t,l,b,c,d,e⟩
 ·exact .inl ⟨a,u,x,b,s _ _ c,d⟩
 ·exact .inr ⟨a,u,t,l,b,s _ _ c,s _ _ d,e⟩
section
variable{P:Program}{w:World}{K:PySem.W.Frag}{mg:Str->Option Value}{base:Heap}{cT Pt:Addr}
abbrev sFe:Stmt:=top 22
abbrev nFe:List Str:=["net","most","lowest","number","paper","point","told"]
theorem scFe:Zx nFe ["net","most"] (Zd sFe):=⟨rfl,rfl,rfl,by decide+kernel,rfl,by decide+kernel,by decide+kernel⟩
def Zh4(cT:Addr):Sp:=fun vs H _ E=>∃(p:Addr)(n:Int)(v:V)(mo:Int),vs=[.ref p,.int mo]/\H p=some (.tup [.int n,v])/\9<n/\∀H' dx,Same H H'->H' dx=none->E (.ref cT) (some dx) (upd H' dx (.xd [("most",.int 9)]))
theorem Zit{f fB:Addr}{fd fdB:FuncData}(F:FunD K "fewest" "fewest" sFe f fd)(FB:FnOk P w K mg base (RX.CXe P w) 5 fB fdB ["net"] (Zh5 cT))(gB:mg "bound"=some (.ref fB))(kB:PySem.W.keepIn K (.ref fB)=true)(bB:L2.Binds K fdB ["net"] []):FnOk P w K mg base (RX.CXe P w) 47 f fd ["net","most"] (Zh4 cT):=by
 refine F.okX (k:=46) scFe (fun vs H Q E h=>?_) (fun cdv A outer s H vs Q E hr h=>?_)
 ·obtain⟨p,n,v,mo,rfl,_⟩:=h
  rfl
 ·obtain⟨p,n,v,mo,rfl,hp,h9,q⟩:=h
  refine⟨_,Zb (Zm (i:=2) scFe.nd rfl (Or.inl rfl) (ZaG (FB.mono (k:=46) (by omega)) hr rfl gB kB bB .nil (RX.ZcG fun _ _ _ z=>z) (Ze (pv 0) Za))) Zw,?_⟩
  exact⟨_,rfl,p,n,v,rfl,hp,h9,q⟩
def Zjf(cT Pt:Addr):Sp:=fun vs H Q E=>∃(p:Addr)(n:Nat)(qa:Addr)(ts:List V)(es:List (Nat×Nat))(mo:Nat)(M:Int),vs=[.ref p,.int (mo:Int)]/\NetZ H p n qa ts es/\n<=9/\IsMax (dl es n) M/\Y8 Pt H/\
 (M=0->∀H' u t0,Same H H'->H' u=some (.tup [.int 0,.ref t0,.non])->H' t0=some (.tup [])->Q (.ref u) H')/\
 (0<M->∀(x N:Nat)(o:Option (List Nat)),(ZP es M n)[0]?=some x->YO es n M (parts n).length=((N:Int),o)->
  (40<es.length->∀H' dx,Same H H'->H' dx=none->E (.ref cT) (some dx) (upd H' dx (.xd [("most",.int 40)])))/\
  (es.length<=40->(∀k r,N<=k->Cas es x mo N k->nm es x k<=mo->gx es x k=some r->∀H' v,GrL Pt H H'->FewAt H' es n M x N o k r v->Q v H')/\
   (∀k,N<=k->Cas es x mo N k->mo<nm es x k->∀H' dx,GrL Pt H H'->H' dx=none->E (.ref cT) (some dx) (upd H' dx (.xd [("most",.int (mo:Int))])))))
theorem ZjD{f fS:Addr}{fd fdS:FuncData}(F:FunD K "fewest" "fewest" sFe f fd)(T:Bi mg)(FB:FnE P w K mg base "bound" ["net"] 5 spBd)(FFc:FnE P w K mg base "first_crowded" ["net","most"] 4 spFc)(FMo:FnE P w K mg base "most_of" ["net"] 4 spMo)(FBt:FnE P w K mg base "barred_at" ["net","point","many"] 2 spBt)
  (FS:FnOk P w K mg base (RX.CXe P w) 46 fS fdS ["net","many","barred","most"] (ZhW cT Pt))(gS:mg "search"=some (.ref fS))(kS:PySem.W.keepIn K (.ref fS)=true)(b4:L2.Binds K fdS ["net","many","barred","most"] []):FnOk P w K mg base (RX.CXe P w) 47 f fd ["net","most"] (Zjf cT Pt):=by
 refine F.okX (k:=46) scFe (fun vs H Q E h=>?_) (fun cdv A outer s H vs Q E hr h=>?_)
 ·obtain⟨p,n,qa,ts,es,mo,M,rfl,_⟩:=h
  rfl
 ·obtain⟨p,n,qa,ts,es,mo,M,rfl,N,h9,hM,hT,q0,q⟩:=h
  have hr5:Room 5 _:=hr.mono (by omega)
  have hr4:Room 4 _:=hr.mono (by omega)
  have hr2:Room 2 _:=hr.mono (by omega)
  have hl200:=N.l200
  refine⟨_,Zb (PS.nox (Zm (i:=2) scFe.nd rfl (Or.inl rfl) (Z0 FB hr5 (Ze (pv 0) Za))))
   (Zb (PS.nox (Zm (i:=3) scFe.nd rfl (Or.inl rfl) (Zo Zl (pv 2) Zc (fun _ _=>rfl))))
   (Zb (PS.nox (Zm (i:=4) scFe.nd rfl (Or.inl rfl) (Zo Zl (pv 2) Zc (fun _ _=>rfl))))
   (Zb (Z3 (PT.nox (Zi ZR (pv 3) Zc (Zp _))) (Zh (Z2 (Zu (Ze Zc (Ze (Zu Za) (Ze Yj Za)))))) Zr)
   (Zb (PS.nox (Zm (i:=5) scFe.nd rfl (Or.inl rfl) (Z0 FFc hr4 (Ze (pv 0) (Ze (Z0 FMo hr4 (Ze (pv 0) Za)) Za)))))
   (Zb (Zm (i:=6) scFe.nd rfl (Or.inl rfl) (ZaG FS hr rfl gS kS b4 .nil (RX.ZcG fun _ _ _ z=>z) (Ze (pv 0) (Ze (pv 3) (Ze (Z0 FBt hr2 (Ze (pv 0) (Ze (pv 5) (Ze (pv 3) Za)))) (Ze (pv 1) Za))))))
   (Zb (Zfu RX.Zju (PT.nox (Zi ZR (Zo Zl (pv 6) Zc (fun _ _=>rfl)) Yi (Zp _)))
    (Zb (PS.nox (Zij (i:=3) scFe.nd rfl (Or.inl rfl) Zc ZfX))
    (Zb (PS.nox (Zm (i:=4) scFe.nd rfl (Or.inl rfl) (pv 6)))
    (Zh (Zm (i:=6) scFe.nd rfl (Or.inl rfl) (ZaG FS hr rfl gS kS b4 .nil (RX.ZcG fun _ _ _ z=>z) (Ze (pv 0) (Ze (pv 3) (Ze (Z0 FBt hr2 (Ze (pv 0) (Ze (pv 5) (Ze (pv 3) Za)))) (Ze (pv 1) Za))))))))))
   (Zh (Z2 (Zu (Ze (pv 3) (Ze (Zo Zl (pv 6) Zc (fun _ _=>rfl)) (Ze (pv 4) Za)))))))))))),?_⟩
  refine⟨_,rfl,p,n,qa,ts,es,rfl,N,h9,fun G t sG hB=>?_⟩
  obtain⟨M',hM',hB⟩:=hB
  cases hM.uniq hM'
  rcases hB with⟨hM0,ht⟩|⟨hM0,Nz,pv,ht,hMN,_,hPap,o,hbo,hPO⟩
  ·refine⟨_,rfl,t,_,_,_,rfl,rfl,SqT.of ht,rfl,?_⟩
   refine⟨_,rfl,t,_,_,_,rfl,rfl,SqT.of ht,rfl,?_⟩
   exact⟨_,rfl,rfl,_,rfl,Yr ⟨rfl,fun t0 G1 s1 h1=>⟨rfl,fun u G2 s2 h2=>q0 hM0 G2 u t0 (Same.trans sG (Same.trans s1 s2)) h2 (s2 _ _ h1)⟩⟩⟩
  ·have hMle:=(ZaJ hM).2
   have hNle:=hPap.le h9 hMle
   obtain⟨N0,rfl⟩:∃N0:Nat,Nz=(N0:Int):=⟨Nz.toNat,by omega⟩
   have hn0:0<n:=by
    rcases hM with⟨hd,e⟩|⟨hm,_⟩
    ·omega
    ·cases n with
     |zero=>cases hm
     |succ n=>exact Nat.succ_pos _
   refine⟨_,rfl,t,_,_,_,rfl,rfl,SqT.of ht,rfl,?_⟩
   refine⟨_,rfl,t,_,_,_,rfl,rfl,SqT.of ht,rfl,?_⟩
   refine⟨_,rfl,rfl,_,rfl,?_⟩
   rw[decide_eq_false (fun z=>by have:=V.int.inj z;omega)]
   refine Zy ?_
   have NG:=N.same sG
   refine⟨_,rfl,_,rfl,p,n,qa,ts,es,rfl,NG,fun G1 M1 s1 hM1=>?_⟩
   cases hM.uniq hM1
   refine⟨p,n,qa,ts,es,M,rfl,NG.same s1,hM,hn0,fun G2 x s2 hx=>?_⟩
   have sH2:Same H G2:=Same.trans sG (Same.trans s1 s2)
   have N2:=N.same sH2
   obtain⟨q40,qn⟩:=q hM0 x N0 o hx hbo
   have hPap2:=(hPap.same s1).same s2
   have hPO2:=(hPO.same s1).same s2
   have hT2:Y8 Pt G2:=hT.same sH2
   refine⟨_,rfl,_,rfl,_,rfl,_,rfl,_,rfl,p,n,qa,ts,es,x,N0,rfl,N2,by omega,fun G3 r s3 hr3=>?_⟩
   have sH3:=Same.trans sH2 s3
   have hT3:Y8 Pt G3:=hT.same sH3
   refine⟨_,rfl,p,n,qa,ts,es,N0,mo,.ref r,ZW es x N0,rfl,N.same sH3,by omega,Jy es x N0,Zc1 (by omega),.inr ⟨r,rfl,hr3⟩,hT3,fun h40 G4 dx s4 hdx=>q40 h40 G4 dx (Same.trans sH3 s4) hdx,fun h40=>⟨fun hle G4 v g4 r4=>?_,fun hgt G4 dx g4 hdx=>?_⟩⟩
   ·obtain⟨qk,qe⟩:=qn h40
    refine⟨fun d σ G=>∃(k:Nat)(v pv:V),d=es.length+100-k/\k<=es.length+9/\N0<=k/\σ=[some (.ref p),some (.int (mo:Int)),some (.ref t),some (.int (k:Int)),some pv,some (.int (x:Int)),some v]/\GrL Pt H G/\Cas es x mo N0 k/\nm es x k<=mo/\Zc3 es (ZW es x k) k G v/\
      ((k=N0/\PapO G es n M o pv/\Pap G es n M (N0:Int) pv)\/(N0<k/\Zc3 es (ZW es x (k-1)) (k-1) G pv)),⟨_,N0,v,pv,rfl,by omega,Nat.le_refl _,rfl,?_,fun j h1 h2=>by omega,hle,r4,.inl ⟨rfl,?_,?_⟩⟩,fun d σ G⟨k,v,pv,hd,hk9,hNk,e,g,hc,hnk,hR,hpv⟩=>?_⟩
    ·exact⟨fun b o e hb=>g4.keep b o (sH3 _ _ e) hb,g4.tab⟩
    ·exact(hPO2.same s3).tk (GrL.keepT g4 hT3)
    ·exact(hPap2.same s3).tk (GrL.keepT g4 hT3)
    ·subst e
     cases hgx:gx es x k with
     |some rt=>
      obtain⟨a,b,rfl,ha,hb⟩:=hR.full hgx
      refine⟨_,rfl,a,_,_,_,rfl,rfl,SqT.of ha,rfl,rfl,_,rfl,Zy ?_⟩
      refine⟨_,rfl,_,rfl,a,_,_,_,rfl,rfl,SqT.of ha,rfl,_,rfl,rfl,fun u G5 s5 h5=>?_⟩
      refine qk k rt hNk hc hnk hgx G5 (.ref u) (g.same s5) ⟨u,b,pv,rfl,h5,s5 _ _ hb,?_⟩
      rcases hpv with⟨e1,e2,e3⟩|⟨e1,e2⟩
      ·exact .inl ⟨e1,e2.same s5,e3.same s5⟩
      ·exact .inr ⟨e1,ResAt.keep e2 (Same.keepT s5)⟩
     |none=>
      have hk2:=Zem hgx
      obtain⟨a,y,rfl,ha,hy⟩:=hR.case hgx
      refine⟨_,rfl,a,_,_,_,rfl,rfl,SqT.of ha,rfl,rfl,_,rfl,Yr ?_⟩
      refine⟨fun σ' G'=>∃(v':V),σ'=[some (.ref p),some (.int (mo:Int)),some (.ref t),some (.int ((k+1:Nat):Int)),some (.ref a),some (.int (x:Int)),some v']/\GrL Pt H G'/\Cas es x mo N0 (k+1)/\nm es x (k+1)<=mo/\Zc3 es (ZW es x (k+1)) (k+1) G' v'/\Zc3 es (ZW es x k) k G' (.ref a),fun σ' G'⟨v',e,g',hc',hn',hR',hp'⟩=>⟨es.length+100-(k+1),by omega,k+1,v',.ref a,rfl,by omega,by omega,e,g',hc',hn',hR',.inr ⟨by omega,hp'⟩⟩,?_⟩
      refine⟨_,rfl,_,_,rfl,rfl,?_⟩
      have hc1:Cas es x mo N0 (k+1):=fun j h1 h2=>by
       by_cases z:j=k
       ·subst z;exact⟨hnk,hgx⟩
       ·exact hc j h1 (by omega)
      have NG':=NetZ.keepT N (GrL.keepT g hT)
      refine⟨_,rfl,_,rfl,_,rfl,_,rfl,_,rfl,_,rfl,p,n,qa,ts,es,x,k+1,rfl,NG',by omega,fun G5 r5 s5 hr5=>?_⟩
      have hT5:Y8 Pt G5:=g.tab.same s5
      have g5:GrL Pt H G5:=g.same s5
      refine⟨_,rfl,p,n,qa,ts,es,k+1,mo,.ref r5,ZW es x (k+1),rfl,NG'.same s5,by omega,Jy es x (k+1),Zc1 (by omega),.inr ⟨r5,rfl,hr5⟩,hT5,fun z=>absurd z (by omega),fun _=>⟨fun hle6 G6 v6 g6 r6=>?_,fun hgt6 G6 dx g6 hdx=>?_⟩⟩
      ·exact⟨v6,rfl,g5.trans g6,hc1,hle6,r6,ResAt.keep hR (fun b xs e=>GrL.keepT g6 hT5 _ _ (s5 _ _ e))⟩
      ·exact qe (k+1) (by omega) hc1 hgt6 G6 dx (g5.trans g6) hdx
   ·obtain⟨qk,qe⟩:=qn h40
    exact qe N0 (Nat.le_refl _) (fun j h1 h2=>by omega) hgt G4 dx ⟨fun b o e hb=>g4.keep b o (sH3 _ _ e) hb,g4.tab⟩ hdx
end
end My
set_option maxHeartbeats 1000000
namespace My
open PySem L2 Cs
theorem ZbO{es:List (Nat×Nat)}{bs:List (List Nat)}{m:Nat}{tl:Tl}(g:Good es bs m tl){i x p:Nat}(h:tl[i]?=some (some x))(hp:At (es.getD i (0,0)) p):¬Used es tl i p x:=by
 rintro⟨j,hj,h2,hq⟩
 have z:=g.cln j i x hj h2 h
 unfold mtB at z
 simp only[Bool.or_eq_false_iff,beq_eq_false_iff_ne]at z
 obtain⟨⟨⟨z1,z2⟩,z3⟩,z4⟩:=z
 rcases hp with rfl|rfl
 ·rcases hq with e|e
  ·exact z1 e.symm
  ·exact z3 e.symm
 ·rcases hq with e|e
  ·exact z2 e.symm
  ·exact z4 e.symm
section
variable{P:Program}{w:World}{K:PySem.W.Frag}{mg:Str->Option Value}{base:Heap}
abbrev sWh:Stmt:=top 29
def ZaT(K:PySem.W.Frag):Sp:=fun vs H Q _=>∃v:V,vs=[v]/\((∃i,v= .int i/\Q (.bl true) H)\/(∃t,JQ K H v (.type t)/\PySem.W.kitOne K (.type t) (.type "int")=some false/\Q (.bl false) H))
theorem ZkR:Zx ["_law_found"] ["_law_found"] (Zd sWh):=⟨rfl,rfl,rfl,by decide+kernel,rfl,by decide+kernel,by decide+kernel⟩
theorem Zjw{f:Addr}{fd:FuncData}(F:Fun K "_law_whole" "_law_whole" sWh f fd)(T:Bi mg):FnOk P w K mg base CX0 1 f fd ["_law_found"] (ZaT K):=by
 refine F.ok ZkR (fun vs H Q E h=>?_) (fun cdv A outer s H vs Q E hr h=>?_)
 ·obtain⟨v,rfl,_⟩:=h
  rfl
 ·obtain⟨v,rfl,h⟩:=h
  refine⟨_,Zh (Z2 (Jq (Zn ZL rfl T.isi Za3 (Ze (pv 0) (Ze (Yy (v:= .ty "int") rfl T.int Zk6 rfl) Za)))
   (JI (Zin (Zn ZL rfl T.isi Za3 (Ze (pv 0) (Ze (Yy (v:= .ty "bool") rfl T.bool Zk7 rfl) Za))))))),?_⟩
  rcases h with⟨i,rfl,q⟩|⟨t,ty,kt,q⟩
  ·exact⟨_,rfl,_,_,_,_,rfl,.int i,kit K "int" "int" true (by decide+kernel),_,rfl,Yr ⟨_,rfl,_,_,_,_,rfl,.int i,kit K "int" "bool" false (by decide+kernel),_,rfl,q⟩⟩
  ·exact⟨_,rfl,_,_,_,_,rfl,ty,kt,_,rfl,Zy q⟩
abbrev sGo:Stmt:=top 30
abbrev pNa:List Str:=["_law_net_here","_law_tints","_law_many"]
abbrev nGo:List Str:=["_law_net_here","_law_tints","_law_many","_law_taken","_law_k","_law_point"]
theorem scGo:Zx nGo pNa (Zd sGo):=⟨rfl,rfl,rfl,by decide+kernel,rfl,by decide+kernel,by decide+kernel⟩
def spGo:Sp:=fun vs H Q _=>∃(p tq:Addr)(n:Nat)(q:Addr)(ts:List V)(es:List (Nat×Nat))(bs:List (List Nat))(m:Nat)(tl:Tl),vs=[.ref p,.ref tq,.int (m:Int)]/\NetZ H p n q ts es/\H tq=some (.tup (tv tl))/\m<=1000/\Good es bs m tl/\(∀k,k<tl.length->∃x,tl[k]?=some (some x))/\
 ∀H',Same H H'->Q (.bl true) H'
theorem ZjC{f:Addr}{fd:FuncData}(F:Fun K "_law_good" "_law_good" sGo f fd)(T:Bi mg)(FW:FnE P w K mg base "_law_whole" ["_law_found"] 1 (ZaT K)):FnOk P w K mg base CX0 2 f fd pNa spGo:=by
 refine F.ok scGo (fun vs H Q E h=>?_) (fun cdv A outer s H vs Q E hr h=>?_)
 ·obtain⟨p,tq,n,q,ts,es,bs,m,tl,rfl,_⟩:=h
  rfl
 ·obtain⟨p,tq,n,qa,ts,es,bs,m,tl,rfl,N,htq,hm,hg,hfull,q⟩:=h
  have hu:=Zbn hr
  have h200:=N.l200
  have hlen:=N.len
  have htl:=hg.len
  refine⟨_,Zb (Z3 (PW.pt (pw_or (ZY (ZS (Zn ZL rfl T.isi Za3 (Ze (pv 1) (Ze (Yy (v:= .ty "tuple") rfl T.tuple Yh rfl) Za))))) (pw_or1 (Zi YI (Zn Zk rfl T.len Ye (Ze (pv 1) Za)) (Zn Zk rfl T.len Ye (Ze (Zo Zl (pv 0) Zc (fun _ _=>rfl)) Za)) (Zp _))))) Zw Zr)
   (Zb (Zm (i:=3) scGo.nd rfl (Or.inl rfl) Zf3)
   (Zb (ZZ PassesOwn.never rfl (ZM rfl T.range (Ze (Zn Zk rfl T.len Ye (Ze (pv 1) Za)) Za)) (Zt (i:=4) scGo.nd rfl (Or.inl rfl))
    (Zb (Z3 (PW.pt (pw_or (ZY (ZS (Z0 FW hr (Ze (Zo Zl (pv 1) (pv 4) (fun _ _=>rfl)) Za)))) (pw_or (Zi Zbc (Zo Zl (pv 1) (pv 4) (fun _ _=>rfl)) Zc (Zp _)) (pw_or1 (Zi ZfC (Zo Zl (pv 1) (pv 4) (fun _ _=>rfl)) (pv 2) (Zp _)))))) Zw Zr)
    (Zh (ZZ PassesOwn.never rfl (Zat (Zo Zl (Zo Zl (pv 0) Zc (fun _ _=>rfl)) (pv 4) (fun _ _=>rfl))) (Zt (i:=5) scGo.nd rfl (Or.inl rfl))
      (Zb (Z3 (Zdx (Zf6 hu (Zu (Ze (pv 5) (Ze (Zo Zl (pv 1) (pv 4) (fun _ _=>rfl)) Za))) (pv 3))) Zw Zr)
      (Zh (Zck hu (pv 3) (Zu (Ze (pv 5) (Ze (Zo Zl (pv 1) (pv 4) (fun _ _=>rfl)) Za))) ZcF rfl)))))))
   (Zh (Z2 ZcF)))),?_⟩
  refine⟨_,rfl,_,_,_,_,rfl,.tup htq,kit K "tuple" "tuple" true (by decide+kernel),_,rfl,Zy ?_⟩
  refine⟨_,rfl,tq,_,rfl,.inr (SqT.of htq),_,rfl,p,_,_,_,rfl,rfl,SqT.of N.e1,rfl,qa,_,rfl,.inr (SqT.of N.e2),rfl,_,rfl,?_⟩
  rw[decide_eq_true (by rw[Y9,htl,hlen])]
  refine Zy ?_
  intro d hd
  have s0:Same H (upd H d (.dT [])):=Zs hd
  refine⟨_,rfl,tq,_,rfl,.inr (SqT.of (s0 _ _ htq)),_,rfl,by rw[Y9];omega,by rw[Y9];omega,?_⟩
  rw[Y9]
  refine ZT (lo:=0) (n:=((tl.length:Nat):Int).toNat) (fun i σ G=>∃(kvs:List (List Key×V))(v5 v6:Option V),σ=[some (.ref p),some (.ref tq),some (.int (m:Int)),some (.ref d),v5,v6]/\Same H G/\G d=some (.dT kvs)/\kvs.length<=2*i/\Keys kvs (Used es tl i))
   ⟨[],_,_,rfl,s0,Zf,Nat.le_refl _,fun p t=>⟨(fun z=>by cases z),fun z=>absurd z Used.zero⟩⟩ (fun i σ G hi⟨kvs,v5,v6,e,sG,hD,hkv,hK⟩=>?_) (fun σ G⟨kvs,v5,v6,e,sG,hD,hkv,hK⟩=>?_)
  ·subst e
   rw[Int.toNat_natCast]at hi
   rw[Int.zero_add]
   have hie:i<es.length:=by omega
   obtain⟨x,ho⟩:=hfull i hi
   obtain⟨hx1,hx2⟩:=hg.own i x ho
   have NG:=N.same sG
   have htG:=sG _ _ htq
   obtain⟨ta,hta1,ha⟩:=N.at' hie
   obtain⟨_,_,ab⟩:=N.ok _ (getD_mem hie)
   have hat:atI (tv tl) (i:Int)=some (.int (x:Int)):=ZH (Zcb ho)
   refine⟨_,rfl,_,rfl,tq,_,_,_,rfl,rfl,SqT.of htG,hat,_,rfl,.inl ⟨_,rfl,_,rfl,?_⟩⟩
   refine Zy ⟨_,rfl,_,rfl,tq,_,_,_,rfl,rfl,SqT.of htG,hat,_,_,rfl,rfl,_,rfl,?_⟩
   rw[decide_eq_false (by omega)]
   refine Zy ⟨_,rfl,_,rfl,tq,_,_,_,rfl,rfl,SqT.of htG,hat,_,rfl,_,_,rfl,rfl,_,rfl,?_⟩
   rw[decide_eq_false (by omega)]
   refine Zy ?_
   generalize hA:(es.getD i (0,0)).1=A1 at*
   generalize hB:(es.getD i (0,0)).2=B1 at*
   have at1:At (es.getD i (0,0)) A1:= .inl hA.symm
   have at2:At (es.getD i (0,0)) B1:= .inr hB.symm
   have f1:=ZbO hg ho at1
   have f2:=ZbO hg ho at2
   refine⟨_,rfl,p,_,_,_,rfl,rfl,SqT.of NG.e1,rfl,_,rfl,qa,_,_,_,rfl,rfl,SqT.of NG.e2,ZH hta1,ta,rfl,⟨_,SqT.of (sG _ _ ha)⟩,?_⟩
   refine Zad (K:=K) (a:=ta) (xs:=[.int (A1:Int),.int (B1:Int)]) (fun j σ G=>∃kvs' w5,σ=[some (.ref p),some (.ref tq),some (.int (m:Int)),some (.ref d),some (.int (i:Int)),w5]/\Same H G/\G d=some (.dT kvs')/\kvs'.length<=2*i+j/\Keys kvs' (fun y t'=>Used es tl i y t'\/(t'=x/\((1<=j/\y=A1)\/(2<=j/\y=B1)))))
    ⟨kvs,_,rfl,sG,hD,by omega,hK.iff fun y t'=>⟨.inl,fun z=>z.elim id fun⟨_,z2⟩=>by omega⟩⟩ (fun j σ G _⟨kvs',w5,_,sG,_⟩=>SqT.of (sG _ _ ha)) (fun j y σ G hx'⟨kvs',w5,e,sG,gD,gk,gK⟩=>?_) (fun σ G⟨kvs',w5,e,sG,gD,gk,gK⟩=>?_)
   ·subst e
    obtain⟨X1,rfl,hj,hnot,hks⟩:∃X1:Nat,y= .int (X1:Int)/\j<2/\¬(Used es tl i X1 x\/(x=x/\((1<=j/\X1=A1)\/(2<=j/\X1=B1))))/\
      (∀x' t',((Used es tl i x' t'\/(t'=x/\((1<=j/\x'=A1)\/(2<=j/\x'=B1))))\/(x'=X1/\t'=x))↔(Used es tl i x' t'\/(t'=x/\((1<=j+1/\x'=A1)\/(2<=j+1/\x'=B1))))):=by
     match j,hx' with
     |0,hx'=>
      cases hx'
      refine⟨A1,rfl,by decide,fun z=>z.elim f1 fun⟨_,z⟩=>by omega,fun x' t'=>?_⟩
      constructor
      ·rintro((z|⟨_,z⟩)|⟨rfl,rfl⟩)
       ·exact .inl z
       ·omega
       ·exact .inr ⟨rfl,.inl ⟨by decide,rfl⟩⟩
      ·rintro(z|⟨rfl,⟨_,rfl⟩|⟨z,_⟩⟩)
       ·exact .inl (.inl z)
       ·exact .inr ⟨rfl,rfl⟩
       ·omega
     |1,hx'=>
      cases hx'
      refine⟨B1,rfl,by decide,fun z=>z.elim f2 fun⟨_,z⟩=>by omega,fun x' t'=>?_⟩
      constructor
      ·rintro((z|⟨rfl,z⟩)|⟨rfl,rfl⟩)
       ·exact .inl z
       ·exact .inr ⟨rfl,z.imp (fun⟨_,z⟩=>⟨by decide,z⟩) fun⟨z,_⟩=>by omega⟩
       ·exact .inr ⟨rfl,.inr ⟨by decide,rfl⟩⟩
      ·rintro(z|⟨rfl,⟨_,rfl⟩|⟨_,rfl⟩⟩)
       ·exact .inl (.inl z)
       ·exact .inl (.inr ⟨rfl,.inl ⟨by decide,rfl⟩⟩)
       ·exact .inr ⟨rfl,rfl⟩
     |j+2,hx'=>cases hx'
    have htG2:=sG _ _ htq
    refine⟨_,rfl,_,rfl,_,rfl,tq,_,_,_,rfl,rfl,SqT.of htG2,hat,rfl,fun t1 G1 u1 h1=>⟨_,rfl,d,_,rfl,DGet.t (k:=ky X1 x) (u1 _ _ gD) h1,_,rfl,?_⟩⟩
    refine ZQ (fun hz=>absurd ((gK _ _).mp hz) hnot) (fun hz=>?_)
    have l1:=YL kvs' (ky X1 x) (V.bl true)
    refine⟨_,rfl,_,rfl,_,rfl,_,rfl,tq,_,_,_,rfl,rfl,SqT.of (u1 _ _ htG2),hat,rfl,fun t2 G2 u2 h2=>⟨d,_,rfl,DPut.t (k:=ky X1 x) (u2 _ _ (u1 _ _ gD)) h2 (by rw[sizeLine_eq];omega),?_⟩⟩
    exact⟨_,_,rfl,(Same.trans (Same.trans sG u1) u2).wr hd,Zf,by omega,(gK.put _ _ _).iff hks⟩
   ·subst e
    refine⟨kvs',_,_,rfl,sG,gD,(by simp only[List.length_cons,List.length_nil]at gk;omega),gK.iff fun y t'=>?_⟩
    rw[Used.succ,ho]
    constructor
    ·rintro(z|⟨rfl,⟨_,rfl⟩|⟨_,rfl⟩⟩)
     ·exact .inl z
     ·exact .inr ⟨rfl,at1⟩
     ·exact .inr ⟨rfl,at2⟩
    ·rintro(z|⟨z,hx'⟩)
     ·exact .inl z
     ·cases z
      rcases hx' with rfl|rfl
      ·exact .inr ⟨rfl,.inl ⟨by show 1<=2;decide,hA⟩⟩
      ·exact .inr ⟨rfl,.inr ⟨by show 2<=2;decide,hB⟩⟩
  ·exact q G sG
end
end My
namespace L2
open PySem PySem.Spec PyProof.Rows
theorem ZgH{X:Cx}{K:PySem.W.Frag}{scope:Scope}{cl:List (Str×Addr)}{N:List Str}{bs:List (Option Nat)}{tg iter elt:Expr}{ifs:List Expr}{pos:Pos}{tl:TE}{g:TG}{tt:TT}{te:TE}(hK:X.K=K)(B:Blk X scope cl N bs)(hc:X.calm=true)
  (hl:PE X iter tl)(hm:YC tl)(hg:∀C fp s H,PG (Z7 X scope cl C N fp s H) tg g) (ht:∀C fp s H,PTs (Z7 X scope cl C N fp s H) ifs tt) (he:∀C fp s H,PE (Z7 X scope cl C N fp s H) elt te)
  (hs:∀x,foldedSetIterable iter X.env x=pure x:=by intro _;rfl):PE X (.ListComp elt [⟨tg,iter,ifs,0⟩] scope pos) (ZiY K bs tl g tt te):=by
 subst hK
 exact JJ B hc hl hm hg ht he hs
end L2
namespace My
open PySem L2
theorem Y7{es:List (Nat×Nat)}{M:Int}{x:Nat}:∀{n:Nat},(ZP es M n)[0]?=some x->(dg es es.length x:Int)=M/\x<n/\∀i,i<x->(dg es es.length i:Int)≠M
 |0,h=>by cases h
 |n+1,h=>by
  by_cases e:(dg es es.length n:Int)=M
  ·rw[ZbQ e]at h
   cases q:ZP es M n with
   |nil=>
    rw[q]at h
    cases h
    refine⟨e,Nat.lt_succ_self _,fun i hi z=>?_⟩
    have:i∈ZP es M _:=List.mem_filter.mpr ⟨List.mem_range.mpr hi,decide_eq_true z⟩
    rw[q]at this
    cases this
   |cons y r=>
    rw[q]at h
    cases h
    obtain⟨a,b,c⟩:=Y7 (n:=n) (x:=x) (by rw[q];rfl)
    exact⟨a,Nat.lt_succ_of_lt b,c⟩
  ·rw[Zbs e]at h
   obtain⟨a,b,c⟩:=Y7 h
   exact⟨a,Nat.lt_succ_of_lt b,c⟩
theorem Zcv(es:List (Nat×Nat))(n:Nat):(dl es n).length=n:=by
 unfold dl
 rw[List.length_map,List.length_range]
theorem Zhp(es:List (Nat×Nat))(i:Nat):dl es (i+1)=dl es i++[(dg es es.length i:Int)]:=by
 unfold dl
 rw[List.range_succ,List.map_append]
 rfl
def Zjj:Stmt->Scope
 | .Return (some (.ListComp _ _ s _)) _=>s
 |_=>{kind:= .function,names:=[],isGenerator:=false,isCoroutine:=false}
def Zid:Stmt->Scope
 | .Return (some (.ListComp (.Call _ [.ListComp _ _ s _] _ _) _ _ _)) _=>s
 |_=>{kind:= .function,names:=[],isGenerator:=false,isCoroutine:=false}
section
variable{P:Program}{w:World}{K:PySem.W.Frag}{mg:Str->Option Value}{base:Heap}
abbrev sLc:Stmt:=top 31
abbrev ZjZ:Scope:=Zjj (Jl 31 0)
abbrev Zl0:Scope:=Zid (Jl 31 0)
abbrev nL1:List Str:=["_law_point","_law_net_here"]
def spLc:Sp:=fun vs H Q _=>∃(p:Addr)(n:Nat)(q:Addr)(ts:List V)(es:List (Nat×Nat)),vs=[.ref p]/\NetZ H p n q ts es/\∀(H':Hp)(l:Addr),Same H H'->H' l=some (.lst ((dl es n).map V.int))->Q (.ref l) H'
theorem Zls:nL1.Nodup:=by decide+kernel
theorem Zlr:(["_law_tie","_law_point"]:List Str).Nodup:=by decide+kernel
theorem ZkT:Zx ["_law_net_here"] ["_law_net_here"] (Zd sLc):=⟨rfl,rfl,rfl,by decide+kernel,rfl,by decide+kernel,by decide+kernel⟩
theorem Zky{f:Addr}{cdv:Value}{A:Around}{outer:List Env}{s:Shared}{H:Hp}{E:XK}:
  BlkC (ZF CX0 P w K mg base ["_law_net_here"] "_law_crowds" (Zd sLc) f cdv A outer s H E).nox ZjZ [("_law_net_here",s.heap.objs.size+1)] nL1 [none,some 0]:=by
 refine⟨rfl,rfl,by decide+kernel,by decide+kernel,fun p hp=>?_,fun y hy e=>?_,⟨rfl,rfl,rfl⟩,trivial⟩
 ·rw[List.mem_singleton.mp hp]
  rfl
 ·have hy':y∈[((PySem.Str.ofString ".0":Str),NameKind.local),(PySem.Str.ofString "_law_point",.cell),(PySem.Str.ofString "len",.globalImplicit),(PySem.Str.ofString "_law_net_here",.free)]:=hy
  simp only[List.mem_cons,List.not_mem_nil,or_false]at hy'
  rcases hy' with rfl|rfl|rfl|rfl<;>first|rfl|cases e
theorem Zkx{f:Addr}{cdv:Value}{A:Around}{outer:List Env}{s s':Shared}{H H':Hp}{E:XK}{C:Addr}{fp:List Addr}:
  Blk (Yd (ZF CX0 P w K mg base ["_law_net_here"] "_law_crowds" (Zd sLc) f cdv A outer s H E).nox ZjZ [("_law_net_here",s.heap.objs.size+1)] C nL1 fp s' H') Zl0 [("_law_point",C+1)] ["_law_tie","_law_point"] [none,some 0]:=by
 refine⟨rfl,rfl,by decide+kernel,by decide+kernel,fun p hp=>?_,fun y hy e=>?_,⟨rfl,rfl,rfl⟩,trivial⟩
 ·rw[List.mem_singleton.mp hp]
  rfl
 ·have hy':y∈[((PySem.Str.ofString ".0":Str),NameKind.local),(PySem.Str.ofString "_law_tie",.local),(PySem.Str.ofString "_law_point",.free)]:=hy
  simp only[List.mem_cons,List.not_mem_nil,or_false]at hy'
  rcases hy' with rfl|rfl|rfl<;>first|rfl|cases e
theorem Zj9{f:Addr}{fd:FuncData}(F:Fun K "_law_crowds" "_law_crowds" sLc f fd)(T:Bi mg):FnOk P w K mg base CX0 1 f fd ["_law_net_here"] spLc:=by
 refine F.ok ZkT (fun vs H Q E h=>?_) (fun cdv A outer s H vs Q E hr h=>?_)
 ·obtain⟨p,n,q,ts,es,rfl,_⟩:=h
  rfl
 ·obtain⟨p,n,qa,ts,es,rfl,N,q⟩:=h
  have h60:=N.n60
  have h200:=N.l200
  have hlen:=N.len
  refine⟨_,Zh (Z2 (ZgI Zky rfl rfl T.range (Ze (Zo Zl (pv 0) Zc (fun _ _=>rfl)) Za) (ZN (Y6 (ZJ 0) (YB _)) Yc) rfl
   (fun C fp s H=>Zt (i:=0) Zls rfl (Or.inr rfl)) (fun C fp s H=>YK)
   (fun C fp s H=>Zn (JB (K:=K) rfl) rfl T.len Ye (Ze (ZgH (K:=K) rfl Zkx rfl (Zo (Ji (K:=K) rfl) (pv 1) Zc (fun _ _=>rfl)) (Y6 (ZJ 1) (YB _)) (fun C fp s H=>Zt (i:=0) Zlr rfl (Or.inl rfl))
    (fun C fp s H=>Yv (Zi (Zbd (K:=K) rfl) (pv 1) (pv 0) rfl)) (fun C fp s H=>pv 0)) Za)))),?_⟩
  refine⟨_,rfl,p,_,_,_,rfl,rfl,SqT.of N.e1,rfl,n,rfl,by omega,fun i ys σ G=>Same H G/\ys=(dl es i).map V.int/\∃v0,σ=[v0,some (.ref p)],⟨Same.refl _,rfl,none,rfl⟩,fun i ys σ G hi⟨_,e,_⟩=>(by rw[e,List.length_map,Zcv];exact Nat.le_refl _),fun i ys σ G hi⟨sG,e1,v0,e⟩=>?_,fun ys σ G⟨sG,e1,_⟩ l G2 s2 hl=>?_⟩
  ·subst e1 e
   refine⟨_,rfl,p,_,_,_,rfl,rfl,SqT.of (sG _ _ N.e1),rfl,qa,_,rfl,SqT.of (sG _ _ N.e2),by omega,fun k zs σ G'=>Same G G'/\zs.length=dg es k i/\∃v0,σ=[v0,some (.int (0+(i:Int)))],⟨Same.refl _,rfl,none,rfl⟩,fun k zs σ G' hk⟨sG',e2,_⟩=>⟨SqT.of (sG' _ _ (sG _ _ N.e2)),by rw[e2];exact JC es i k⟩,fun k x zs σ G' hx⟨sG',e2,v0,e⟩=>?_,fun zs σ G'⟨sG',e2,_⟩ l G2 s2 hl=>?_⟩
   ·subst e
    obtain⟨a,rfl,ha⟩:=N.tie k x hx
    have ha2:=sG' _ _ (sG _ _ ha)
    refine⟨_,rfl,_,rfl,a,_,rfl,.inr (SqT.of ha2),rfl,rfl,_,rfl,?_⟩
    rw[Int.zero_add]
    refine ZQ (fun hh=>⟨_,rfl,sG',?_,_,rfl⟩) (fun hh=>⟨sG',?_,_,rfl⟩)
    ·have hA:=(YM i (es.getD k (0,0))).mp hh
     rw[Zcw,if_pos (atB_iff.mpr hA),List.length_append,e2]
     rfl
    ·have hA:¬At (es.getD k (0,0)) i:=fun z=>hh ((YM i (es.getD k (0,0))).mpr z)
     rw[Zcw,if_neg (fun z=>hA (atB_iff.mp z)),e2]
     rfl
   ·refine⟨l,_,rfl,.inl (SqL.of hl),?_⟩
    refine⟨Same.trans sG (Same.trans sG' s2),?_,_,rfl⟩
    rw[Zhp,List.map_append,e2,hlen]
    rfl
  ·subst e1
   exact q G2 l (Same.trans sG s2) hl
end
end My
set_option maxHeartbeats 1000000
namespace RX
open PySem PySem.Spec PyProof.Rows L2 PySem.W
def Zg2(sp:Sp)(gV:List V->List V->List V)(Ex:L2.St->XK)(t tk:TA):TE:=fun σ H Q=>t σ H fun vs H1=>tk σ H1 fun zs H2=>sp (gV vs zs) H2 Q (Ex σ)
theorem ZeC{X:Cx}{k:Nat}{f:Addr}{fd:FuncData}{ps ks:List Str}{sp:Sp}{Ex:L2.St->XK}{x:Str}{p pos:Pos}{e:Expr}{es:List Expr}{kws:List Keyword}{t tk:TA}{g:List Value->List Value->List Value}{gV:List V->List V->List V}
  (F:FnOk X.prog X.w X.K X.mg X.base (CXe X.prog X.w) k f fd ps sp)(hr:Room k X.A)(hg:Gl X x)(hm:X.mg x=some (.ref f))(hk:PySem.W.keepIn X.K (.ref f)=true)(hb:ZdM X.K fd ps ks g gV)(hx:Zgr X Ex)
  (ha:PA X (e::es) t)(hkw:PK X kws tk)(hall:(backToKw pos (keywordEach kws X.env)).all (·.1.isSome)=true:=by rfl)(hks:(backToKw pos (keywordEach kws X.env)).filterMap (·.1)=ks:=by rfl)
  (hdb:(x==("__debug__":Str))=false:=by decide)(he:starEach (e::es) X.env=(false,eval e X.env)::starEach es X.env:=by rfl)
  (hpl:((backTo pos (starEach (e::es) X.env)).any (·.1)||(backToKw pos (keywordEach kws X.env)).any (·.1.isNone))=false:=by rfl):
  PE X (.Call (.Name x p) (e::es) kws pos) (Zg2 sp gV Ex t tk):=by
 intro pins s σ H Q I h
 refine wpAny_Call_Name_kw (Jg I hg hm ?_ hdb)
 refine PySem.W.callWith_KW (h₀:=X.base) I.ok.mod.kin hk hall (thn (ha pos pins s σ H _ I h) fun us s1⟨vs,H1,I1,r,q⟩=>?_) hpl he
 refine thn (hkw pos pins s1 σ H1 _ I1 q) fun ws s2⟨zs,H2,I2,rz,q2⟩=>⟨I2.kIn,?_⟩
 rw[hks]
 have r2:=hb.rel r rz
 have hl:(g us ws).length=ps.length:=by rw[<-r2.length];exact F.len _ _ _ _ q2
 refine wpAny_call (codeAny_mono (F.run X.A X.stack s2 H2 ⟨us,ks.zip ws⟩ (g us ws) (gV vs zs) Q (Ex σ) hr I2.env0 (hb.to s2 us ws I2.kIn hl) r2 q2) fun r s' hq=>?_)
 cases r with
 |error e=>exact hx pins σ H2 s2 e s' I2 hq
 |ok fl=>
  cases fl with
  |ret u=>exact I2.after hq
  |next=>exact False.elim hq
  |brk=>exact False.elim hq
  |cont=>exact False.elim hq
end RX
namespace My
open PySem L2 Cs
structure Kinds(K:PySem.W.Frag)(mg:Str->Option Value)(C:Addr):Prop where
 ex:∃te m1 m2 m3:Addr,mg "TintError"=some (.ref te)/\mg "NotPlain"=some (.ref m1)/\mg "NotTwoSided"=some (.ref m2)/\mg "TooFew"=some (.ref m3)/\PySem.W.kitCls K (.ref C) (.ref te)=some true/\PySem.W.mroIn K te (.type "BaseException")=some true/\PySem.W.kitAny K (.ref C) [.ref m1,.ref m2,.ref m3]=some false
 one:PySem.W.kitOne K (.ref C) (.ref C)=some true
 gt:RX.Zdg K C
 no:PySem.W.findIn K (.ref C) "most"=some none
def kwG:List Value->List Value->List Value
 |[a],[c]=>[a,c]
 |_,_=>[]
def kwV:List V->List V->List V
 |[a],[c]=>[a,c]
 |_,_=>[]
theorem Zi8:∀{vs:List V}{us:List Value}{zs:List V}{ws:List Value},Vals vs us->Vals zs ws->Vals (kwV vs zs) (kwG us ws)
 |_,_,_,_,.cons r1 .nil,.cons r3 .nil=> .cons r1 (.cons r3 .nil)
 |_,_,_,_,.nil,_=> .nil
 |_,_,_,_,.cons _ (.cons _ _),_=> .nil
 |_,_,_,_,.cons _ .nil,.nil=> .nil
 |_,_,_,_,.cons _ .nil,.cons _ (.cons _ _)=> .nil
section
variable{P:Program}{w:World}{K:PySem.W.Frag}{mg:Str->Option Value}{base:Heap}{cT Pt:Addr}
def Zfm(cT Pt:Addr):Sp:=fun vs H Q E=>Zjf cT Pt vs H Q E\/Zh4 cT vs H Q E
theorem Zaq{vs:List V}{H:Hp}{Q Q':VK}{E E':XK}(hQ:∀v G,Q v G->Q' v G) (hE:∀c d G,E c d G->E' c d G) (h:Zfm cT Pt vs H Q E):Zfm cT Pt vs H Q' E':=by
 rcases h with⟨p,n,qa,ts,es,mo,M,e,N,h9,hM,hT,q0,q⟩|⟨p,n,v,mo,e,hp,h9,q⟩
 ·refine .inl ⟨p,n,qa,ts,es,mo,M,e,N,h9,hM,hT,fun z H' u t0 a b c=>hQ _ _ (q0 z H' u t0 a b c),fun z x N o a b=>?_⟩
  obtain⟨q40,qn⟩:=q z x N o a b
  refine⟨fun z H' dx a b=>hE _ _ _ (q40 z H' dx a b),fun z=>?_⟩
  obtain⟨q1,q2⟩:=qn z
  exact⟨fun k r a b c d H' v g f=>hQ _ _ (q1 k r a b c d H' v g f),fun k a b c H' dx g d=>hE _ _ _ (q2 k a b c H' dx g d)⟩
 ·exact .inr ⟨p,n,v,mo,e,hp,h9,fun H' dx a b=>hE _ _ _ (q H' dx a b)⟩
def Wsh(cT:Addr)(Q:VK):XK:=fun c od G=>∃(dx:Addr)(m:Int),c= .ref cT/\od=some dx/\G dx=some (.xd [("most",.int m)])/\∀G',Same G G'->Q (.int m) G'
abbrev sTo:Stmt:=top 38
abbrev nTo:List Str:=["_law_net_here","_law_at_most","_law_found","_law_kept","error"]
theorem scTo:Zx nTo ["_law_net_here","_law_at_most"] (Zd sTo):=⟨rfl,rfl,rfl,by decide+kernel,rfl,by decide+kernel,by decide+kernel⟩
def Zcf(cT Pt:Addr):Sp:=fun vs H Q _=>∃(p:Addr)(mo:Nat),vs=[.ref p,.int (mo:Int)]/\Zfm cT Pt [.ref p,.int (mo:Int)] H Q (Wsh cT Q)
theorem Zjx{f fF:Addr}{fd fdF:FuncData}{t3:Tok}(F:Fun K "_law_told" "_law_told" sTo f fd)(T:Bi mg)(KC:Kinds K mg cT)(hG:mg "TooGreat"=some (.ref cT))
  (FF:FnOk P w K mg base (RX.CXe P w) 47 fF fdF ["net","most"] (Zfm cT Pt))(gF:mg "fewest"=some (.ref fF))(kF:PySem.W.keepIn K (.ref fF)=true)(b2:L2.Binds K fdF ["net","most"] [])(b1:L2.Binds K fdF ["net","most"] [.int 300 t3])(bk:L2.ZdM K fdF ["net","most"] ["most"] kwG kwV):
  FnOk P w K mg base CX0 48 f fd ["_law_net_here","_law_at_most"] (Zcf cT Pt):=by
 obtain⟨te,m1,m2,m3,gte,g1,g2,g3,kte,hbe,km⟩:=KC.ex
 refine F.ok (k:=47) scTo (fun vs H Q E h=>?_) (fun cdv A outer s H vs Q E hr h=>?_)
 ·obtain⟨p,mo,rfl,_⟩:=h
  rfl
 ·obtain⟨p,mo,rfl,h⟩:=h
  have d1:Vals [V.int 300] [Value.int 300 t3]:= .cons ⟨_,rfl⟩ .nil
  obtain⟨tt,htt,hok,hex⟩:∃tt,PSs (ZF CX0 P w K mg base nTo "_law_told" (Zd sTo) f cdv A outer s H E).nox ((Zj sTo).drop 3) tt/\
    (∀(G:Hp)(v:V)(v6:Option V),Q v G->tt {nx:=fun _ H'=>Q .non H',rt:=Q} [some (.ref p),some (.int (mo:Int)),some v,some .non,v6] G)/\
    (∀(G:Hp)(v2 v6:Option V)(e dx:Addr)(k:Int),G e=some (RX.XO cT (some dx) e)->G dx=some (.xd [("most",.int k)])->(∀G',Same G G'->Q (.int k) G')->tt {nx:=fun _ H'=>Q .non H',rt:=Q} [some (.ref p),some (.int (mo:Int)),v2,some (.ref e),v6] G):=by
   refine⟨_,Zb (Z3 (Zi JM (pv 3) Yj (Zp _)) (Zh (Z2 (pv 2))) Zr)
    (Zb (Z3 (PW.pt (pw_or (ZY (ZS (Zn RX.Zc0 rfl T.isi Za3 (Ze (pv 3) (Ze (Y4 (v:= .ref cT) rfl hG rfl) Za))))) (pw_or1 (ZS (Zn RX.ZbB rfl T.isi Za3 (Ze (pv 3) (Ze (Zu (Ze (Y4 (v:= .ref m1) rfl g1 rfl) (Ze (Y4 (v:= .ref m2) rfl g2 rfl) (Ze (Y4 (v:= .ref m3) rfl g3 rfl) Za)))) Za))))))) Zw Zr)
    (Zh (Z2 (RX.ZdX (pv 3) rfl)))),fun G v v6 hq=>?_,fun G v2 v6 e dx k he hdx hq=>?_⟩
   ·exact⟨_,rfl,rfl,_,rfl,Yr ⟨_,rfl,hq⟩⟩
   ·have hdd:∀{G':Hp},Same G G'->∀d',some dx=some d'->∃u,G' d'=some u:=fun{G'} sG d' hd'=>by
     cases hd'
     exact⟨_,sG _ _ hdx⟩
    refine⟨_,rfl,rfl,_,rfl,Zy ?_⟩
    refine⟨_,rfl,e,cT,some dx,_,_,true,rfl,he,hdd (Same.refl _),KC.gt,rfl,KC.one,true,rfl,Zy ?_⟩
    refine⟨_,rfl,rfl,fun tp G1 s1 htp=>⟨e,cT,some dx,tp,[m1,m2,m3],false,rfl,s1 _ _ he,hdd s1,KC.gt,htp,km,_,rfl,Zy ?_⟩⟩
    exact⟨_,rfl,e,cT,dx,_,_,rfl,s1 _ _ he,s1 _ _ hdx,KC.gt,KC.no,rfl,(fun n z=>by cases z),hq G1 s1⟩
  refine⟨_,Zb (Zm (i:=2) scTo.nd rfl (Or.inl rfl) Yj)
   (Zb (Zm (i:=3) scTo.nd rfl (Or.inl rfl) Yj)
   (Zb (RX.Zfv rfl rfl (fun pn E Ex ht=>Zh (Z3 (Zi ZR (pv 1) Zc (Zp _))
     (Zh (Zm (i:=2) scTo.nd rfl (Or.inl rfl) (RX.Zbb FF hr rfl gF kF b1 d1 ht (Ze (pv 0) Za))))
     (Zh (Z3 (Zi ZR (Zq ZC (pv 1) Zc) Zc (Zp _))
      (Zh (Zm (i:=2) scTo.nd rfl (Or.inl rfl) (RX.Zbb FF hr rfl gF kF b2 .nil ht (Ze (pv 0) (Ze (pv 1) Za)))))
      (Zh (Zm (i:=2) scTo.nd rfl (Or.inl rfl) (RX.ZeC FF hr rfl gF kF bk ht (Ze (pv 0) Za) (ZgE (pv 1) Zik))))))))
    (RX.Zh7 (i:=4) rfl gte hbe scTo.nd rfl rfl (fun e=>Zh (Zm (i:=3) scTo.nd rfl (Or.inl rfl) (pv 4))) RX.Zfy))
   htt)),?_⟩
  refine⟨_,rfl,rfl,_,rfl,?_⟩
  by_cases h300:mo=300
  ·subst h300
   refine Yr ⟨_,rfl,Zaq (fun v G hq=>hok G v _ hq) (fun c od G hw=>?_) h⟩
   obtain⟨dx,m,rfl,rfl,hdx,hq⟩:=hw
   refine⟨cT,true,rfl,kte,?_⟩
   rw[if_pos rfl]
   intro e he
   have hed:dx≠e:=fun z=>by rw[<-z,hdx]at he;cases he
   exact⟨_,rfl,hex _ _ _ e dx m Zf (by rw[Zg hed];exact hdx) fun G' s'=>hq G' (Same.trans (Zs he) s')⟩
  ·rw[decide_eq_false (fun z=>h300 (by have:=V.int.inj z;omega))]
   refine Zy ⟨_,rfl,_,_,rfl,rfl,(by show(0:Int)<2;decide),rfl,_,rfl,?_⟩
   refine ZQ (fun _=>?_) (fun _=>?_)
   ·refine⟨_,rfl,_,rfl,Zaq (fun v G hq=>hok G v _ hq) (fun c od G hw=>?_) h⟩
    obtain⟨dx,m,rfl,rfl,hdx,hq⟩:=hw
    refine⟨cT,true,rfl,kte,?_⟩
    rw[if_pos rfl]
    intro e he
    have hed:dx≠e:=fun z=>by rw[<-z,hdx]at he;cases he
    exact⟨_,rfl,hex _ _ _ e dx m Zf (by rw[Zg hed];exact hdx) fun G' s'=>hq G' (Same.trans (Zs he) s')⟩
   ·refine⟨_,rfl,_,rfl,Zaq (fun v G hq=>hok G v _ hq) (fun c od G hw=>?_) h⟩
    obtain⟨dx,m,rfl,rfl,hdx,hq⟩:=hw
    refine⟨cT,true,rfl,kte,?_⟩
    rw[if_pos rfl]
    intro e he
    have hed:dx≠e:=fun z=>by rw[<-z,hdx]at he;cases he
    exact⟨_,rfl,hex _ _ _ e dx m Zf (by rw[Zg hed];exact hdx) fun G' s'=>hq G' (Same.trans (Zs he) s')⟩
end
end My
set_option maxHeartbeats 1000000
namespace My
open PySem L2 Cs
theorem ZhF{es:List (Nat×Nat)}{n j:Nat}(h:j<n):(dl es n)[j]?=some (dg es es.length j:Int):=by
 unfold dl
 rw[List.getElem?_map,List.getElem?_range h]
 rfl
theorem Zkj{es:List (Nat×Nat)}{n j:Nat}{M:Int}(h:(dl es n)[j]?=some M):j<n:=by
 have:=(List.getElem?_eq_some_iff.mp h).1
 rw[Zcv]at this
 exact this
theorem Zbv{es:List (Nat×Nat)}{n j x:Nat}{M:Int}(hx:(ZP es M n)[0]?=some x)(h:(dl es n)[j]?=some M)(hm:∀i:Nat,i<j->(dl es n)[i]?≠some M):j=x:=by
 obtain⟨a1,a2,a3⟩:=Y7 hx
 have hj:=Zkj h
 rw[ZhF hj]at h
 rcases Nat.lt_trichotomy j x with q|q|q
 ·exact absurd (Option.some.inj h) (a3 j q)
 ·exact q
 ·exact absurd (by rw[ZhF a2,a1]) (hm x q)
theorem RowsF.snoc{H:Hp}{rs:List V}{f:Nat->List Nat}{N:Nat}{a:Addr}{b:List Nat}(h:RowsF H rs f N)(e:H a=some (.tup (nl b))):RowsF H (rs++[.ref a]) (fun k=>if k=N then b else f k) (N+1):=by
 refine⟨by rw[List.length_append,h.1];rfl,fun k hk=>?_⟩
 by_cases z:k=N
 ·subst z
  exact⟨a,by rw[List.getElem?_append_right (by rw[h.1];exact Nat.le_refl _),h.1,Nat.sub_self];rfl,by dsimp only;rw[if_pos rfl];exact e⟩
 ·obtain⟨c,c1,c2⟩:=h.2 k (by omega)
  exact⟨c,by rw[List.getElem?_append_left (by rw[h.1];omega)];exact c1,by dsimp only;rw[if_neg z];exact c2⟩
theorem RowsF.congr{H:Hp}{rs:List V}{f g:Nat->List Nat}{N:Nat}(h:RowsF H rs f N)(e:∀k,k<N->f k=g k):RowsF H rs g N:=⟨h.1,fun k hk=>let⟨a,b,c⟩:=h.2 k hk;⟨a,b,by rw[<-e k hk];exact c⟩⟩
section
variable{P:Program}{w:World}{K:PySem.W.Frag}{mg:Str->Option Value}{base:Heap}{cT Pt:Addr}
abbrev sSh:Stmt:=top 36
abbrev nSh:List Str:=["_law_net_here","_law_many","_law_at_most","_law_crowded","_law_barred","_law_met","_law_k","_law_found","_law_kept","error"]
def shC:List Stmt->Scope
 |[_,.If _ (.Assign _ e _::_) _ _]=>Zcx e
 |_=>{kind:= .function,names:=[],isGenerator:=false,isCoroutine:=false}
abbrev shS:Scope:=shC (Zhj (Jl 36 3))
theorem scSh:Zx nSh ["_law_net_here","_law_many","_law_at_most"] (Zd sSh):=⟨rfl,rfl,rfl,by decide+kernel,rfl,by decide+kernel,by decide+kernel⟩
theorem Zlj:(["_law_tint","_law_met"]:List Str).Nodup:=by decide+kernel
theorem Zkn{f:Addr}{cdv:Value}{A:Around}{outer:List Env}{s:Shared}{H:Hp}{E:XK}:
  Blk (ZF CX0 P w K mg base nSh "_law_search" (Zd sSh) f cdv A outer s H E).nox shS [("_law_met",s.heap.objs.size+1)] ["_law_tint","_law_met"] [none,some 5]:=by
 refine⟨rfl,rfl,by decide+kernel,by decide+kernel,fun p hp=>?_,fun y hy e=>?_,⟨rfl,rfl,rfl⟩,trivial⟩
 ·rw[List.mem_singleton.mp hp]
  rfl
 ·have hy':y∈[((PySem.Str.ofString ".0":Str),NameKind.local),(PySem.Str.ofString "_law_tint",.local),(PySem.Str.ofString "_law_met",.free)]:=hy
  simp only[List.mem_cons,List.not_mem_nil,or_false]at hy'
  rcases hy' with rfl|rfl|rfl<;>first|rfl|cases e
def ZhV(Pt:Addr):Sp:=fun vs H Q _=>∃(p:Addr)(n:Nat)(qa:Addr)(ts:List V)(es:List (Nat×Nat))(M:Int)(x m mo:Nat),vs=[.ref p,.int (m:Int),.int (mo:Int)]/\NetZ H p n qa ts es/\es.length<=40/\m<=1000/\IsMax (dl es n) M/\(ZP es M n)[0]?=some x/\Y8 Pt H/\
 (nm es x m<=mo->∀H' v,GrL Pt H H'->Zc3 es (ZW es x m) m H' v->Q v H')/\(mo<nm es x m->∀H',GrL Pt H H'->Q (.int (mo:Int)) H')
theorem Zjy{f fS:Addr}{fd fdS:FuncData}(F:Fun K "_law_search" "_law_search" sSh f fd)(T:Bi mg)(KC:Kinds K mg cT)(hG:mg "TooGreat"=some (.ref cT))(hbT:PySem.W.mroIn K cT (.type "BaseException")=some true)(kTT:PySem.W.kitCls K (.ref cT) (.ref cT)=some true)(FC:FnE P w K mg base "_law_crowds" ["_law_net_here"] 1 spLc)
  (FS:FnOk P w K mg base (RX.CXe P w) 46 fS fdS ["net","many","barred","most"] (ZhW cT Pt))(gS:mg "search"=some (.ref fS))(kS:PySem.W.keepIn K (.ref fS)=true)(b4:L2.Binds K fdS ["net","many","barred","most"] []):
  FnOk P w K mg base CX0 47 f fd ["_law_net_here","_law_many","_law_at_most"] (ZhV Pt):=by
 refine F.ok (k:=46) scSh (fun vs H Q E h=>?_) (fun cdv A outer s H vs Q E hr h=>?_)
 ·obtain⟨p,n,qa,ts,es,M,x,m,mo,rfl,_⟩:=h
  rfl
 ·obtain⟨p,n,qa,ts,es,M,x,m,mo,rfl,N,h40,hm,hM,hx,hT,q1,q2⟩:=h
  have hr1:Room 1 _:=hr.mono (by omega)
  have hlen:=N.len
  refine⟨_,Zb (Zm (i:=3) scSh.nd rfl (Or.inl rfl) (Z0 FC hr1 (Ze (pv 0) Za)))
   (Zb (Zm (i:=4) scSh.nd rfl (Or.inl rfl) (Jc Za))
   (Zb (Zm (i:=5) scSh.nd rfl (Or.inr rfl) Zc)
   (Zb (ZZ PassesOwn.never rfl (ZM rfl T.range (Ze (Zn Zk rfl T.len Ye (Ze (Zo Zl (pv 0) Zc (fun _ _=>rfl)) Za)) Za)) (Zt (i:=6) scSh.nd rfl (Or.inl rfl))
    (Zb (YD (Jo PySem.F.plainAttrs_list PySem.F.slot_list_append PySem.F.type_list_append Yu (pv 4) (Ze (Zu Za) Za)))
    (Zh (Z3 (Zi Y1 (Jo PySem.F.plainAttrs_list PySem.F.slot_list_index PySem.F.type_list_index (Zaw (K:=K) rfl) (pv 3) (Ze (Zn (ZbU rfl) rfl T.max ZiQ (Ze (pv 3) Za)) Za)) (Zo Zl (Zo Zl (pv 0) Zc (fun _ _=>rfl)) (pv 6) (fun _ _=>rfl)) rfl)
     (Zb (JH (Z9 ZA rfl T.tuple Yh (Ze (Zau Zkn rfl rfl T.range (Ze (pv 1) Za) (ZN (ZJ 1) Yc) rfl (fun C fp s H=>Zt (i:=0) Zlj rfl (Or.inl rfl) (hf:=Or.inr rfl)) (fun C fp s H=>Yv (Zi YI (pv 0) (pv 1) rfl)) (fun C fp s H=>pv 0)) Za)) (Zba (pv 4) (pv 6) set_list))
     (Zh (Zm (i:=5) scSh.nd rfl (Or.inr rfl) (Zq ZE (pv 5) Zc)))) Zr))))
   (Zb (Zm (i:=7) scSh.nd rfl (Or.inl rfl) Yj)
   (Zb (Zm (i:=8) scSh.nd rfl (Or.inl rfl) Yj)
   (Zb (RX.Zfv rfl rfl (fun pn E Ex ht=>Zh (Zm (i:=7) scSh.nd rfl (Or.inl rfl) (RX.Zbb FS hr rfl gS kS b4 .nil ht (Ze (pv 0) (Ze (pv 1) (Ze (Z9 ZA rfl T.tuple Yh (Ze (pv 4) Za)) (Ze (pv 2) Za)))))))
    (RX.Zh7 (i:=9) rfl hG hbT scSh.nd rfl rfl (fun e=>Zh (Zm (i:=8) scSh.nd rfl (Or.inl rfl) (pv 9))) RX.Zfy))
   (Zb (Z3 (Zi JM (pv 8) Yj (Zp _)) (Zh (Z2 (pv 7))) Zr)
   (Zh (Z2 (RX.ZdX (pv 8) rfl)))))))))),?_⟩
  refine⟨_,rfl,p,n,qa,ts,es,rfl,N,fun G0 lc s0 hlc=>?_⟩
  refine⟨Nat.zero_le _,fun B hB=>?_⟩
  have sB:Same G0 (upd G0 B (.lst [])):=Zs hB
  have sHB:=Same.trans s0 sB
  have hBH:H B=none:=Same.none s0 hB
  refine⟨_,rfl,p,_,_,_,rfl,rfl,SqT.of (sHB _ _ N.e1),rfl,qa,_,rfl,.inr (SqT.of (sHB _ _ N.e2)),_,rfl,by omega,by omega,?_⟩
  rw[hlen]
  refine ZT (lo:=0) (n:=((es.length:Nat):Int).toNat) (fun i σ G=>∃(v6:Option V)(rs:List V),σ=[some (.ref p),some (.int (m:Int)),some (.int (mo:Int)),some (.ref lc),some (.ref B),some (.int ((Z4 es x i).length:Int)),v6,none,none,none]/\Same H G/\G lc=some (.lst ((dl es n).map V.int))/\G B=some (.lst rs)/\RowsF G rs (rowAt es x m) i)
   ⟨_,[],rfl,sHB,sB _ _ hlc,Zf,rfl,fun k hk=>absurd hk (Nat.not_lt_zero _)⟩ (fun i σ G hi⟨v6,rs,e,sG,hl,hG,R⟩=>?_) (fun σ G⟨v6,rs,e,sG,hl,hG,R⟩=>?_)
  ·subst e
   rw[Int.toNat_natCast]at hi
   rw[Int.zero_add]
   have hrl:=R.1
   refine⟨_,rfl,.inl ⟨rfl,_,SqL.of hG⟩,rfl,fun e0 G1 s1 he0=>?_⟩
   have hG1:=s1 _ _ hG
   refine⟨B,rs,_,rfl,rfl,hG1,Nat.lt_of_lt_of_le (show rs.length<1000 by omega) (Yq (by decide)),?_⟩
   obtain⟨G2,hG2⟩:∃G2,G2=upd G1 B (.lst (rs++[.ref e0])):=⟨_,rfl⟩
   have kt12:∀b o,b≠B->G1 b=some o->G2 b=some o:=fun b o hb e=>by rw[hG2,Zg hb];exact e
   have hB2:G2 B=some (.lst (rs++[.ref e0])):=by rw[hG2];exact Zf
   have sH2:Same H G2:=by rw[hG2];exact(Same.trans sG s1).wr hBH
   have neT:∀{b:Addr}{xs:List V},G1 b=some (.tup xs)->b≠B:=fun{b xs} e z=>by rw[z,hG1]at e;cases e
   have kt2:Yz G1 G2:=fun b xs e=>kt12 b _ (neT e) e
   have hlc2:G2 lc=some (.lst ((dl es n).map V.int)):=kt12 _ _ (fun z=>by
    have h0:G0 lc=some _:=hlc
    rw[z,hB]at h0
    cases h0) (s1 _ _ hl)
   have R2:=(R.keep (Same.keepT s1)).keep kt2
   have he2:G2 e0=some (.tup (nl [])):=kt2 _ _ he0
   rw[<-hG2]
   have N2:=N.same sH2
   obtain⟨tk,htk,hta⟩:=N2.at' hi
   have hnl:0<(dl es n).length:=by
    rw[Zcv]
    have:=(Y7 hx).2.1
    omega
   refine⟨_,rfl,.inl ⟨rfl,_,SqL.of hlc2⟩,_,rfl,lc,dl es n,rfl,.inl (SqL.of hlc2),hnl,fun M1 hM1 hM2=>?_⟩
   cases hM.uniq (show IsMax (dl es n) M1 from .inr ⟨hM1,hM2⟩)
   refine⟨lc,dl es n,M,rfl,rfl,SqL.of hlc2,hM1,fun j hj1 hj2=>?_⟩
   cases Zbv hx hj1 hj2
   refine⟨_,rfl,p,_,_,_,rfl,rfl,SqT.of N2.e1,rfl,_,rfl,qa,_,_,_,rfl,rfl,SqT.of N2.e2,ZH htk,tk,_,rfl,.inr (SqT.of hta),rfl,rfl,_,rfl,?_⟩
   refine ZQ (fun hh=>?_) (fun hh=>?_)
   ·have hA:=(YM x (es.getD i (0,0))).mp hh
    refine⟨_,rfl,m,rfl,by omega,fun j ys σ G'=>Same G2 G'/\ys=nl (Zcp (Z4 es x i).length j)/\∃v0,σ=[v0,some (.int ((Z4 es x i).length:Int))],⟨Same.refl _,rfl,none,rfl⟩,fun j ys σ G' hj⟨_,e2,_⟩=>by rw[e2,Z8];exact ZcK _ _,fun j ys σ G' hj⟨f1,f2,v0,f3⟩=>?_,fun ys σ G'⟨f1,f2,_⟩ l2 G4 s4 hl2=>?_⟩
    ·subst f2 f3
     rw[Int.zero_add]
     refine⟨_,rfl,_,rfl,rfl,?_⟩
     by_cases z:j=(Z4 es x i).length
     ·refine⟨_,rfl,?_⟩
      rw[decide_eq_true (by rw[z])]
      refine Zy ⟨f1,?_,_,rfl⟩
      unfold Zcp
      rw[List.range_succ,List.filter_append,List.filter_cons,if_neg (by simp[z])]
      simp
     ·refine⟨_,rfl,?_⟩
      rw[decide_eq_false (fun q=>z (by have:=V.int.inj q;omega))]
      refine Yr ⟨_,rfl,f1,?_,_,rfl⟩
      rw[Je]
      unfold Zcp
      rw[List.range_succ,List.filter_append,List.filter_cons,if_pos (by simpa using z)]
      rfl
    ·subst f2
     refine⟨l2,_,rfl,.inl hl2,fun b G5 s5 hb=>?_⟩
     have s25:Same G2 G5:=Same.trans f1 (Same.trans s4 s5)
     have hB5:=s25 _ _ hB2
     have hl':(rs++[V.ref e0]).length=i+1:=by rw[List.length_append,hrl];rfl
     refine⟨_,rfl,_,rfl,B,_,(i:Int),i,rfl,rfl,hB5,?_,?_⟩
     ·rw[hl']
      unfold ixN
      rw[if_pos (by omega),if_pos (by omega)]
      simp
     ·refine⟨_,rfl,_,_,rfl,rfl,some (.int (i:Int)),_,?_,(Same.trans sH2 s25).wr hBH,?_,Zf,?_⟩
      ·rw[YX hA,List.length_append]
       rfl
      ·rw[Zg fun z=>by
        have h5:=s25 _ _ hlc2
        have h0:G0 lc=some _:=hlc
        rw[z,hB]at h0
        cases h0]
       exact s25 _ _ hlc2
      ·have R5:=((R2.snoc (b:=[]) he2).keep (Same.keepT s25)).set (g:=rowAt es x m) (j:=i) (b:=b) (by omega) (by
        unfold rowAt
        rw[if_pos (atB_iff.mpr hA)]
        exact hb) (fun k hk=>by rw[if_neg hk])
       refine R5.keep fun c xs e=>?_
       rw[Zg fun z=>by rw[z,hB5]at e;cases e]
       exact e
   ·have hA:¬At (es.getD i (0,0)) x:=fun z=>hh ((YM x (es.getD i (0,0))).mpr z)
    refine⟨some (.int (i:Int)),_,?_,sH2,hlc2,hB2,(R2.snoc (b:=[]) he2).congr fun k hk=>?_⟩
    ·rw[YW hA]
     rfl
    ·by_cases z:k=i
     ·rw[if_pos z,z]
      unfold rowAt
      rw[if_neg (fun y=>hA (atB_iff.mp y))]
     ·rw[if_neg z]
  ·subst e
   rw[Int.toNat_natCast]at R
   refine⟨_,rfl,_,rfl,_,rfl,B,rs,rfl,.inl hG,fun r G6 s6 h6=>?_⟩
   have sH6:=Same.trans sG s6
   have RV:=RowsF.rowsV (R.keep (Same.keepT s6)) h6
   refine⟨_,rfl,p,n,qa,ts,es,m,mo,.ref r,ZW es x m,rfl,N.same sH6,hm,Jy es x m,Zc1 hm,.inr ⟨r,rfl,RV⟩,hT.same sH6,fun z=>absurd z (by omega),fun _=>⟨fun hle G7 v g7 r7=>?_,fun hgt G7 dx g7 hdx=>?_⟩⟩
   ·exact⟨_,rfl,rfl,_,rfl,Yr ⟨_,rfl,q1 hle G7 v ⟨fun b o e hb=>g7.keep b o (sH6 _ _ e) hb,g7.tab⟩ r7⟩⟩
   ·refine⟨cT,true,rfl,kTT,?_⟩
    rw[if_pos rfl]
    intro e he
    have hed:dx≠e:=fun z=>by rw[<-z,Zf]at he;cases he
    have gr:GrL Pt H (upd (upd G7 dx (.xd [("most",.int (mo:Int))])) e (RX.XO cT (some dx) e)):=Gr.new (Gr.new ⟨fun b o e hb=>g7.keep b o (sH6 _ _ e) hb,g7.tab⟩ hdx) he
    exact⟨_,rfl,_,rfl,rfl,_,rfl,Zy ⟨_,rfl,e,cT,dx,_,_,rfl,Zf,(by rw[Zg hed,Zf]),KC.gt,KC.no,rfl,(fun n z=>by cases z),q2 hgt _ gr⟩⟩
end
end My
set_option maxHeartbeats 1000000
namespace L2
open PySem PySem.Spec PyProof.Rows
theorem ZeE{X:Cx}{K:PySem.W.Frag}(hK:X.K=K):OpR X (compareOp .NotIn) (rIn K true):=by
 subst hK
 exact Zcm
end L2
namespace My
open PySem L2 Cs
def tkn(es:List (Nat×Nat))(bs:List (List Nat))(tl:Tl)(t i:Nat):Tl:=(bs.getD t []).map some++((List.range i).filter fun j=>mtB es t j).map fun j=>tl.getD j none
theorem ZhO{es:List (Nat×Nat)}{bs:List (List Nat)}{tl:Tl}{t i:Nat}(h:mtB es t i=true):tkn es bs tl t (i+1)=tkn es bs tl t i++[tl.getD i none]:=by
 unfold tkn
 rw[List.range_succ,List.filter_append,List.filter_cons,if_pos h,List.map_append,List.append_assoc]
 rfl
theorem Zgw{es:List (Nat×Nat)}{bs:List (List Nat)}{tl:Tl}{t i:Nat}(h:mtB es t i=false):tkn es bs tl t (i+1)=tkn es bs tl t i:=by
 unfold tkn
 rw[List.range_succ,List.filter_append,List.filter_cons,h,if_neg (by decide)]
 simp
theorem Zgy(es:List (Nat×Nat))(bs:List (List Nat))(tl:Tl)(t i:Nat):(tkn es bs tl t i).length<=(bs.getD t []).length+i:=by
 unfold tkn
 rw[List.length_append,List.length_map,List.length_map]
 have:=List.length_filter_le (fun j=>mtB es t j) (List.range i)
 rw[List.length_range]at this
 omega
theorem Zkb(x:Nat)(l:Tl):inV (.int (x:Int)) (tv l)=true↔some x∈l:=by
 unfold inV tv
 rw[List.any_map,List.any_eq_true]
 constructor
 ·rintro⟨o,ho,e⟩
  cases o with
  |none=>cases e
  |some y=>
   have e':((y:Int)==(x:Int))=true:=e
   have:=eq_of_beq e'
   rw[show x=y by omega]
   exact ho
 ·intro h
  exact⟨some x,h,(beq_iff_eq.mpr rfl:((x:Int)==(x:Int))=true)⟩
theorem Zhl(l:Tl):(tv l).all JG=true:=by
 unfold tv
 rw[List.all_map,List.all_eq_true]
 exact fun x _=>by cases x<;>rfl
theorem Zgz{es:List (Nat×Nat)}{bs:List (List Nat)}{tl:Tl}{t x:Nat}:some x∈tkn es bs tl t tl.length↔(x∈bs.getD t []\/tak es tl t x=true):=by
 unfold tkn
 rw[List.mem_append,tak_iff]
 constructor
 ·rintro(h|h)
  ·obtain⟨y,hy,e⟩:=List.mem_map.mp h
   cases e
   exact .inl hy
  ·obtain⟨j,hj,e⟩:=List.mem_map.mp h
   rw[List.mem_filter,List.mem_range]at hj
   exact .inr ⟨j,hj.1,hj.2,e⟩
 ·rintro(h|⟨j,h1,h2,h3⟩)
  ·exact .inl (List.mem_map.mpr ⟨x,h,rfl⟩)
  ·exact .inr (List.mem_map.mpr ⟨j,List.mem_filter.mpr ⟨List.mem_range.mpr h1,h2⟩,h3⟩)
theorem Zae(p:Nat->Bool)(i:Nat):(List.range (i+1)).filter p=(List.range i).filter p++(if p i=true then[i]else[]):=by
 rw[List.range_succ,List.filter_append,List.filter_cons]
 rfl
def ZkA(kvs:List (Key×V))(es:List (Nat×Nat))(x:Nat):Prop:=∀k,k<es.length->ZX kvs (Sum.inl (k:Int))=if atB (es.getD k (0,0)) x then some (.int ((Z4 es x k).length:Int))else none
theorem Zgx{es:List (Nat×Nat)}{tl:Tl}{t y:Nat}:some y∈tkn es [] tl t tl.length↔tak es tl t y=true:=by
 rw[Zgz]
 exact⟨fun h=>h.elim (fun z=>by cases z) id,.inr⟩
theorem ZjX{es:List (Nat×Nat)}{x m t i:Nat}{tl:Tl}(ht:t<es.length)(hi:i<=m):(List.range i).filter (fun y=> !(rowAt es x m t).contains y&& !tak es tl t y)=(List.range i).filter (fun y=> !tak es tl t y&&(!atB (es.getD t (0,0)) x||y==(Z4 es x t).length)):=by
 refine List.filter_congr fun y hy=>?_
 have hy':=List.mem_range.mp hy
 unfold rowAt
 cases h:atB (es.getD t (0,0)) x with
 |false=>simp[h]
 |true=>
  rw[if_pos rfl]
  have hc:((List.range m).filter fun t'=>t' !=(Z4 es x t).length).contains y= !(y==(Z4 es x t).length):=by
   rw[Bool.eq_iff_iff,List.contains_iff_mem,List.mem_filter,List.mem_range]
   simp only[bne_iff_ne,ne_eq,Bool.not_eq_true',beq_eq_false_iff_ne]
   exact⟨fun z=>z.2,fun z=>⟨by omega,z⟩⟩
  rw[hc]
  cases(y==(Z4 es x t).length)<;>cases tak es tl t y<;>rfl
section
variable{P:Program}{w:World}{K:PySem.W.Frag}{mg:Str->Option Value}{base:Heap}
abbrev sLe:Stmt:=top 33
abbrev nLe:List Str:=["_law_net_here","_law_tints","_law_many","_law_own_tints","_law_tie","_law_taken","_law_k"]
abbrev leS:Scope:=Zcx (Ze8 (Jl 33 2))
abbrev pLe:List Str:=["_law_net_here","_law_tints","_law_many","_law_own_tints","_law_tie"]
abbrev nLeB:List Str:=["_law_tint","_law_own_tints","_law_taken","_law_tie"]
theorem scLe:Zx nLe pLe (Zd sLe):=⟨rfl,rfl,rfl,by decide+kernel,rfl,by decide+kernel,by decide+kernel⟩
theorem Zlp:nLeB.Nodup:=by decide+kernel
theorem Zkv{f:Addr}{cdv:Value}{A:Around}{outer:List Env}{s:Shared}{H:Hp}{E:XK}:
  Blk (ZF CX0 P w K mg base nLe "_law_left" (Zd sLe) f cdv A outer s H E).nox leS [("_law_tie",s.heap.objs.size+2),("_law_taken",s.heap.objs.size+3),("_law_own_tints",s.heap.objs.size+1)] nLeB [none,some 3,some 5,some 4]:=by
 refine⟨rfl,rfl,by decide+kernel,by decide+kernel,fun p hp=>?_,fun y hy e=>?_,⟨rfl,rfl,rfl⟩,⟨rfl,rfl,rfl⟩,⟨rfl,rfl,rfl⟩,trivial⟩
 ·simp only[List.mem_cons,List.not_mem_nil,or_false]at hp
  rcases hp with rfl|rfl|rfl<;>rfl
 ·have hy':y∈[((PySem.Str.ofString ".0":Str),NameKind.local),(PySem.Str.ofString "_law_tint",.local),(PySem.Str.ofString "_law_own_tints",.free),(PySem.Str.ofString "_law_taken",.free),(PySem.Str.ofString "_law_tie",.free)]:=hy
  simp only[List.mem_cons,List.not_mem_nil,or_false]at hy'
  rcases hy' with rfl|rfl|rfl|rfl|rfl<;>first|rfl|cases e
structure Ask(H:Hp)(p tq d:Addr)(n:Nat)(q:Addr)(ts:List V)(es:List (Nat×Nat))(x m:Nat)(tl:Tl)(kvs:List (Key×V)):Prop where
 N:NetZ H p n q ts es
 t:H tq=some (.lst (tv tl))
 l:tl.length=es.length
 d:H d=some (.dK kvs)
 o:ZkA kvs es x
 m:m<=1000
theorem Ask.same{H H':Hp}{p tq d:Addr}{n:Nat}{q:Addr}{ts:List V}{es:List (Nat×Nat)}{x m:Nat}{tl:Tl}{kvs:List (Key×V)}(a:Ask H p tq d n q ts es x m tl kvs)(s:Same H H'):Ask H' p tq d n q ts es x m tl kvs:=
 ⟨a.N.same s,s _ _ a.t,a.l,s _ _ a.d,a.o,a.m⟩
def spLe:Sp:=fun vs H Q _=>∃(p tq d:Addr)(n:Nat)(q:Addr)(ts:List V)(es:List (Nat×Nat))(x m:Nat)(tl:Tl)(kvs:List (Key×V))(t:Nat),vs=[.ref p,.ref tq,.int (m:Int),.ref d,.int (t:Int)]/\Ask H p tq d n q ts es x m tl kvs/\t<es.length/\
 ∀H' l,Same H H'->H' l=some (.lst (nl (lft es (ZW es x m) m tl t)))->Q (.ref l) H'
theorem Zj8{f:Addr}{fd:FuncData}(F:Fun K "_law_left" "_law_left" sLe f fd)(T:Bi mg):FnOk P w K mg base CX0 1 f fd pLe spLe:=by
 refine F.ok scLe (fun vs H Q E h=>?_) (fun cdv A outer s H vs Q E hr h=>?_)
 ·obtain⟨p,tq,d,n,q,ts,es,x,m,tl,kvs,t,rfl,_⟩:=h
  rfl
 ·obtain⟨p,tq,d,n,qa,ts,es,x,m,tl,kvs,t,rfl,Z,ht,q⟩:=h
  have hu:=Zbn hr
  have N:=Z.N
  have hlen:=N.len
  have hl2:=N.l200
  have hm:=Z.m
  have htl:=Z.l
  refine⟨_,Zb (Zm (i:=5) scLe.nd rfl (Or.inr rfl) (Jc Za))
   (Zb (ZZ PassesOwn.never rfl (ZM rfl T.range (Ze (Zn Zk rfl T.len Ye (Ze (pv 1) Za)) Za)) (Zt (i:=6) scLe.nd rfl (Or.inl rfl))
    (Zh (Z3 (PW.pt (pw_or (Zi Y1 (Zo Zl (Zo Zl (Zo Zl (pv 0) Zc (fun _ _=>rfl)) (pv 4) (fun _ _=>rfl)) Zc (fun _ _=>rfl)) (Zo Zl (Zo Zl (pv 0) Zc (fun _ _=>rfl)) (pv 6) (fun _ _=>rfl)) rfl)
      (pw_or1 (Zi Y1 (Zo Zl (Zo Zl (Zo Zl (pv 0) Zc (fun _ _=>rfl)) (pv 4) (fun _ _=>rfl)) Zc (fun _ _=>rfl)) (Zo Zl (Zo Zl (pv 0) Zc (fun _ _=>rfl)) (pv 6) (fun _ _=>rfl)) rfl))))
     (Zh (YD (Jo PySem.F.plainAttrs_list PySem.F.slot_list_append PySem.F.type_list_append Yu (pv 5) (Ze (Zo ZV (pv 1) (pv 6) (fun _ _=>rfl)) Za)))) Zr)))
   (Zh (Z2 (Zau Zkv rfl rfl T.range (Ze (pv 2) Za) (ZN (ZJ 2) Yc) rfl (fun C fp s H=>Zt (i:=0) Zlp rfl (Or.inl rfl) (hf:=Or.inr rfl))
    (fun C fp s H=>Yv (PW.pt (pw_and (Zi (ZeE (K:=K) rfl) (pv 0) (pv 2) rfl) (pw_and1 (Zi ZR (Zf5 hu (pv 1) (pv 3) (pv 0) ⟨rfl,rfl,rfl,rfl⟩) (pv 0) (Zp _)))))) (fun C fp s H=>pv 0))))),?_⟩
  refine⟨Nat.zero_le _,fun B hB=>?_⟩
  have sB:Same H (upd H B (.lst [])):=Zs hB
  refine⟨_,rfl,tq,_,rfl,.inl (SqL.of (sB _ _ Z.t)),_,rfl,by rw[Y9];omega,by rw[Y9];omega,?_⟩
  rw[Y9]
  refine ZT (lo:=0) (n:=((tl.length:Nat):Int).toNat) (fun i σ G=>∃(v6:Option V),σ=[some (.ref p),some (.ref tq),some (.int (m:Int)),some (.ref d),some (.int (t:Int)),some (.ref B),v6]/\Same H G/\G B=some (.lst (tv (tkn es [] tl t i))))
   ⟨_,rfl,sB,Zf⟩ (fun i σ G hi⟨v6,e,sG,hG⟩=>?_) (fun σ G⟨v6,e,sG,hG⟩=>?_)
  ·subst e
   rw[Int.toNat_natCast]at hi
   rw[Int.zero_add]
   have NG:=N.same sG
   obtain⟨tk,htk,hta⟩:=NG.at' ht
   obtain⟨ik,hik,hia⟩:=NG.at' (k:=i) (by omega)
   obtain⟨o,ho⟩:∃o,tl[i]?=some o:=⟨_,List.getElem?_eq_getElem hi⟩
   have hod:tl.getD i none=o:=by rw[List.getD_eq_getElem?_getD,ho];rfl
   have hsz:(tv (tkn es [] tl t i)).length<sizeLine:=by
    rw[Y9]
    have h1:=Zgy es [] tl t i
    have h2:(([]:List (List Nat)).getD t []).length=0:=rfl
    exact Nat.lt_of_lt_of_le (show(tkn es [] tl t i).length<2000 by omega) (Yq (by decide))
   have fin:mtB es t i=true->upd G B (.lst (tv (tkn es [] tl t i)++[tN o])) B=some (.lst (tv (tkn es [] tl t (i+1)))):=fun h=>by
    rw[Zf,ZhO h,hod]
    unfold tv
    rw[List.map_append]
    rfl
   refine⟨_,rfl,p,_,_,_,rfl,rfl,SqT.of NG.e1,rfl,_,rfl,qa,_,_,_,rfl,rfl,SqT.of NG.e2,ZH htk,tk,_,_,_,rfl,rfl,SqT.of hta,rfl,_,rfl,p,_,_,_,rfl,rfl,SqT.of NG.e1,rfl,_,rfl,qa,_,_,_,rfl,rfl,SqT.of NG.e2,ZH hik,ik,_,rfl,.inr (SqT.of hia),rfl,rfl,_,rfl,?_⟩
   refine ZQ (fun h1=>?_) (fun h1=>?_)
   ·have hmt:mtB es t i=true:=by
     have:=(YM _ _).mp h1
     unfold mtB
     rcases this with z|z<;>simp only[z,Bool.or_eq_true,beq_self_eq_true,true_or,or_true]
    refine Yr ⟨_,rfl,.inl ⟨rfl,_,SqL.of hG⟩,_,rfl,_,rfl,tq,_,_,_,rfl,rfl,SqL.of (sG _ _ Z.t),ZH (Zcb ho),B,_,_,rfl,rfl,hG,hsz,_,rfl,sG.wr hB,fin hmt⟩
   ·refine⟨_,rfl,p,_,_,_,rfl,rfl,SqT.of NG.e1,rfl,_,rfl,qa,_,_,_,rfl,rfl,SqT.of NG.e2,ZH htk,tk,_,_,_,rfl,rfl,SqT.of hta,rfl,_,rfl,p,_,_,_,rfl,rfl,SqT.of NG.e1,rfl,_,rfl,qa,_,_,_,rfl,rfl,SqT.of NG.e2,ZH hik,ik,_,rfl,.inr (SqT.of hia),rfl,rfl,_,rfl,?_⟩
    refine ZQ (fun h2=>?_) (fun h2=>?_)
    ·have hmt:mtB es t i=true:=by
      have:=(YM _ _).mp h2
      unfold mtB
      rcases this with z|z<;>simp only[z,Bool.or_eq_true,beq_self_eq_true,true_or,or_true]
     refine⟨_,rfl,.inl ⟨rfl,_,SqL.of hG⟩,_,rfl,_,rfl,tq,_,_,_,rfl,rfl,SqL.of (sG _ _ Z.t),ZH (Zcb ho),B,_,_,rfl,rfl,hG,hsz,_,rfl,sG.wr hB,fin hmt⟩
    ·refine⟨_,rfl,sG,?_⟩
     rw[Zgw]
     ·exact hG
     ·cases z:mtB es t i with
      |false=>rfl
      |true=>
       unfold mtB at z
       simp only[Bool.or_eq_true,beq_iff_eq]at z
       rcases z with((z|z)|z)|z
       ·exact absurd ((YM _ _).mpr (.inl z)) h1
       ·exact absurd ((YM _ _).mpr (.inr z)) h1
       ·exact absurd ((YM _ _).mpr (.inl z)) h2
       ·exact absurd ((YM _ _).mpr (.inr z)) h2
  ·subst e
   rw[Int.toNat_natCast]at hG
   have hlft:lft es (ZW es x m) m tl t=(List.range m).filter (fun y=> !tak es tl t y&&(!atB (es.getD t (0,0)) x||y==(Z4 es x t).length)):=by
    unfold lft
    rw[Zah ht]
    exact ZjX ht (Nat.le_refl _)
   rw[hlft]at q
   refine⟨_,rfl,m,rfl,by omega,fun i ys σ G'=>Same G G'/\ys=nl ((List.range i).filter (fun y=> !tak es tl t y&&(!atB (es.getD t (0,0)) x||y==(Z4 es x t).length)))/\∃v0,σ=[v0,some (.ref d),some (.ref B),some (.int (t:Int))],⟨Same.refl G,rfl,none,rfl⟩,fun i ys σ G' hi⟨_,e2,_⟩=>?_,fun i ys σ G' hi⟨s1,e2,v0,e⟩=>?_,fun ys σ G'⟨s1,e2,_⟩ l G2 s2 hl=>?_⟩
   ·rw[e2,Z8]
    exact Nat.le_trans (List.length_filter_le _ _) (by rw[List.length_range];exact Nat.le_refl _)
   ·subst e e2
    rw[Int.zero_add]
    have hd':=s1 _ _ (sG _ _ Z.d)
    refine⟨_,rfl,_,rfl,B,_,rfl,.inl (SqL.of (s1 _ _ hG)),rfl,Zhl _,_,rfl,?_⟩
    rw[if_pos rfl]
    have htk:inV (.int (i:Int)) (tv (tkn es [] tl t tl.length))=tak es tl t i:=by
     rw[Bool.eq_iff_iff,Zkb,Zgx]
    rw[htk]
    cases hti:tak es tl t i with
    |true=>
     refine Zy (Zy ⟨s1,?_,_,rfl⟩)
     rw[Zae,if_neg (by rw[hti];simp),List.append_nil]
    |false=>
     refine Yr ?_
     have hg:=DGet.k (k:=Sum.inl (t:Int)) hd'
     rw[Z.o t ht]at hg
     refine⟨_,rfl,d,rfl,.inl ⟨kvs,.inl hd'⟩,_,rfl,_,rfl,_,hg,_,rfl,?_⟩
     cases hat:atB (es.getD t (0,0)) x with
     |false=>
      refine⟨rfl,_,rfl,?_⟩
      rw[if_neg (by simp),show(Option.none:Option V).getD (.int (i:Int))= .int (i:Int)from rfl,decide_eq_true rfl]
      refine Yr ⟨_,rfl,s1,?_,_,rfl⟩
      rw[Zae,if_pos (by rw[hti];simp),Je]
     |true=>
      rw[if_pos rfl]
      refine⟨rfl,_,rfl,?_⟩
      rw[show(some (V.int ((Z4 es x t).length:Int))).getD (.int (i:Int))= .int ((Z4 es x t).length:Int)from rfl]
      by_cases z:i=(Z4 es x t).length
      ·rw[decide_eq_true (by rw[z])]
       refine Yr ⟨_,rfl,s1,?_,_,rfl⟩
       rw[Zae,if_pos (by rw[hti];simp[z]),Je]
      ·rw[decide_eq_false (fun y=>z (by have:=V.int.inj y;omega))]
       refine Zy ⟨s1,?_,_,rfl⟩
       rw[Zae,if_neg (by rw[hti];simp[z]),List.append_nil]
   ·subst e2
    exact q G2 l (Same.trans sG (Same.trans s1 s2)) hl
end
end My
set_option maxHeartbeats 1000000
namespace My
open PySem L2 Cs
theorem Ziy(l:List Nat):nl l=(l.map fun x:Nat=>(x:Int)).map V.int:=by
 unfold nl
 rw[List.map_map]
 rfl
theorem Zl9:bootBuiltins "set"=some (.type "set"):=by decide+kernel
section
variable{P:Program}{w:World}{K:PySem.W.Frag}{mg:Str->Option Value}{base:Heap}
abbrev sLb:Stmt:=top 32
abbrev nLb:List Str:=["_law_net_here","_law_part","_law_inside","_law_half"]
abbrev lbS:Scope:=ZjY (Jl 32 1)
theorem Zlq:(["_law_tie","_law_part"]:List Str).Nodup:=by decide+kernel
theorem scLb:Zx nLb ["_law_net_here","_law_part"] (Zd sLb):=⟨rfl,rfl,rfl,by decide+kernel,rfl,by decide+kernel,by decide+kernel⟩
theorem Zkw{f:Addr}{cdv:Value}{A:Around}{outer:List Env}{s:Shared}{H:Hp}{E:XK}:
  Blk (ZF CX0 P w K mg base nLb "_law_bar" (Zd sLb) f cdv A outer s H E).nox lbS [("_law_part",s.heap.objs.size+1)] ["_law_tie","_law_part"] [none,some 1]:=by
 refine⟨rfl,rfl,by decide+kernel,by decide+kernel,fun p hp=>?_,fun y hy e=>?_,⟨rfl,rfl,rfl⟩,trivial⟩
 ·rw[List.mem_singleton.mp hp]
  rfl
 ·have hy':y∈[((PySem.Str.ofString ".0":Str),NameKind.local),(PySem.Str.ofString "_law_tie",.local),(PySem.Str.ofString "_law_part",.free)]:=hy
  simp only[List.mem_cons,List.not_mem_nil,or_false]at hy'
  rcases hy' with rfl|rfl|rfl<;>first|rfl|cases e
def spLb:Sp:=fun vs H Q _=>∃(p t:Addr)(n:Nat)(q:Addr)(ts:List V)(es:List (Nat×Nat))(s:List Nat),vs=[.ref p,.ref t]/\NetZ H p n q ts es/\H t=some (.tup (nl s))/\s∈parts n/\∀H',Same H H'->Q (.int (Zb3 es s:Int)) H'
theorem ZjA{f:Addr}{fd:FuncData}(F:Fun K "_law_bar" "_law_bar" sLb f fd)(T:Bi mg)(hse:mg "set"=none):FnOk P w K mg base CX0 1 f fd ["_law_net_here","_law_part"] spLb:=by
 refine F.ok scLb (fun vs H Q E h=>?_) (fun cdv A outer s H vs Q E hr h=>?_)
 ·obtain⟨p,t,n,q,ts,es,s',rfl,_⟩:=h
  rfl
 ·obtain⟨p,t,n,qa,ts,es,st,rfl,N,ht,hin,q⟩:=h
  obtain⟨hsub,h3,hodd⟩:=parts_mem.mp hin
  have h100:=Y0 n st hsub
  have h60:=N.n60
  obtain⟨hrise,_⟩:=Zap n st hsub
  have hnd:(st.map fun x:Nat=>(x:Int)).Nodup:=by
   unfold List.Nodup
   rw[List.pairwise_map]
   exact hrise.imp fun z=>by omega
  refine⟨_,Zb (Z3 (PW.pt (pw_or (ZY (ZS (Zn ZL rfl T.isi Za3 (Ze (pv 1) (Ze (Yy (v:= .ty "tuple") rfl T.tuple Yh rfl) Za))))) (pw_or (Zi Zbc (Zn Zk rfl T.len Ye (Ze (pv 1) Za)) Zc (Zp _)) (pw_or (Zi ZR (Zq ZC (Zn Zk rfl T.len Ye (Ze (pv 1) Za)) Zc) Zc (Zp _)) (pw_or1 (Zi Zbc (Zn ZeW rfl T.len Ye (Ze (Z9 (ZeT hr) rfl hse Zl9 (Ze (pv 1) Za)) Za)) (Zn Zk rfl T.len Ye (Ze (pv 1) Za)) (Zp _))))))) Zw Zr)
   (Zb (Zm (i:=2) scLb.nd rfl (Or.inl rfl) (Zn Zk rfl T.len Ye (Ze (JJ Zkw rfl (Zo Zl (pv 0) Zc (fun _ _=>rfl)) (Y6 (ZJ 0) (YB _)) (fun C fp s H=>Zt (i:=0) Zlq rfl (Or.inl rfl))
    (fun C fp s H=>Yv (PW.pt (pw_and (Zi (Zbd (K:=K) rfl) (Zo (Ji (K:=K) rfl) (pv 0) Zc (fun _ _=>rfl)) (pv 1) rfl) (pw_and1 (Zi (Zbd (K:=K) rfl) (Zo (Ji (K:=K) rfl) (pv 0) Zc (fun _ _=>rfl)) (pv 1) rfl))))) (fun C fp s H=>pv 0)) Za)))
   (Zb (Zm (i:=3) scLb.nd rfl (Or.inl rfl) (Zq YG (Zq Jd (Zn Zk rfl T.len Ye (Ze (pv 1) Za)) Zc) Zc))
   (Zh (Z2 (Zq YG (Zq Jd (Zq ZE (pv 2) (pv 3)) Zc) (pv 3)))))),?_⟩
  have h200:=N.l200
  have hlen:=N.len
  refine⟨_,rfl,_,_,_,_,rfl,.tup ht,kit K "tuple" "tuple" true (by decide+kernel),_,rfl,Zy ?_⟩
  refine⟨_,rfl,t,_,rfl,.inr (SqT.of ht),_,_,rfl,rfl,_,rfl,?_⟩
  rw[Z8,decide_eq_false (by omega)]
  refine Zy ⟨_,rfl,t,_,rfl,.inr (SqT.of ht),_,_,rfl,rfl,(by show(0:Int)<2;decide),rfl,_,rfl,?_⟩
  rw[decide_eq_false (fun z=>by
   have:=V.int.inj z
   rw[Z8]at this
   omega)]
  refine Zy ⟨_,rfl,t,_,rfl,by rw[<-Ziy];exact SqT.of ht,by rw[List.length_map];omega,fun z S G sG hz=>?_⟩
  rw[Zb9 _ hnd,List.length_map]at hz
  refine⟨z,S,_,rfl,hz,by omega,_,rfl,t,_,rfl,.inr (SqT.of (sG _ _ ht)),_,_,rfl,rfl,_,rfl,?_⟩
  rw[Z8,decide_eq_false (by omega)]
  refine Zy ?_
  have N:=N.same sG
  have ht:=sG _ _ ht
  refine⟨_,rfl,p,_,_,_,rfl,rfl,SqT.of N.e1,rfl,qa,_,rfl,SqT.of N.e2,by omega,fun i ys σ J=>Same G J/\ys.length=JO es st i/\∃v0,σ=[v0,some (.ref t)],⟨Same.refl _,rfl,none,rfl⟩,fun i ys σ G hi⟨sG,e,_⟩=>⟨SqT.of (sG _ _ N.e2),by rw[e];exact Zcu _ _ _⟩,fun i x ys σ G hx⟨sG,e1,v0,e⟩=>?_,fun ys σ J⟨sJ,e1,_⟩ l G2 s2 hl=>?_⟩
  ·subst e
   obtain⟨a,rfl,ha⟩:=N.tie i x hx
   have haG:=sG _ _ ha
   have htG:=sG _ _ ht
   have hs:=ZbL es st i
   generalize(es.getD i (0,0)).1=A1 at*
   generalize(es.getD i (0,0)).2=B1 at*
   refine⟨_,rfl,a,_,_,_,rfl,rfl,SqT.of haG,rfl,_,rfl,t,_,rfl,.inr (SqT.of htG),rfl,Zaf _,_,rfl,?_⟩
   refine ZQ (fun z=>?_) (fun z=>?_)
   ·refine⟨_,rfl,a,_,_,_,rfl,rfl,SqT.of haG,rfl,_,rfl,t,_,rfl,.inr (SqT.of htG),rfl,Zaf _,_,rfl,?_⟩
    have m1:A1∈st:=(JE A1 st).mp z
    refine ZQ (fun z2=>?_) (fun z2=>?_)
    ·have m2:B1∈st:=(JE B1 st).mp z2
     refine⟨_,rfl,sG,?_,_,rfl⟩
     rw[hs,if_pos (by rw[decide_eq_true m1,decide_eq_true m2];rfl),List.length_append,e1]
     rfl
    ·refine⟨sG,?_,_,rfl⟩
     have m2:B1 ∉ st:=fun y=>z2 ((JE B1 st).mpr y)
     rw[hs,if_neg (by rw[decide_eq_false m2,Bool.and_false];decide),e1]
   ·refine Zy ⟨sG,?_,_,rfl⟩
    have m1:A1 ∉ st:=fun y=>z ((JE A1 st).mpr y)
    rw[hs,if_neg (by rw[decide_eq_false m1,Bool.false_and];decide),e1]
  ·have sG2:=Same.trans sJ s2
   obtain⟨hc,hp⟩:=ZbN h3
   have hhl:half st<=100:=by unfold half;omega
   refine⟨l,_,rfl,.inl (SqL.of hl),?_⟩
   refine⟨_,rfl,t,_,rfl,.inr (SqT.of (sG2 _ _ ht)),_,_,rfl,rfl,_,_,rfl,rfl,⟨by decide,by decide⟩,?_⟩
   dsimp only[Jw]
   rw[hc]
   refine⟨_,rfl,_,rfl,_,_,rfl,rfl,_,_,rfl,rfl,_,rfl,_,_,rfl,rfl,⟨by omega,by omega⟩,?_⟩
   rw[e1,hlen]
   show Q (.int ((((JO es st es.length:Nat):Int)+(half st:Int)-1)/(half st:Int))) G2
   rw[show((JO es st es.length:Nat):Int)+(half st:Int)-1=((JO es st es.length+half st-1:Nat):Int) by omega,ZcY]
   exact q G2 (Same.trans sG sG2)
end
end My
set_option maxHeartbeats 2000000
namespace My
open PySem L2 Cs
def Za9(es:List (Nat×Nat))(bs:List (List Nat))(m:Nat)(tl:Tl)(i:Nat):List (Nat×List Nat):=((List.range i).filter fun k=>tl.getD k none==none).map fun k=>(k,lft es bs m tl k)
theorem ZfR{es:List (Nat×Nat)}{bs:List (List Nat)}{m:Nat}{tl:Tl}{i:Nat}(h:tl.getD i none=none):Za9 es bs m tl (i+1)=Za9 es bs m tl i++[(i,lft es bs m tl i)]:=by
 unfold Za9
 rw[List.range_succ,List.filter_append,List.filter_cons,if_pos (by rw[h];rfl),List.map_append]
 rfl
theorem ZeI{es:List (Nat×Nat)}{bs:List (List Nat)}{m:Nat}{tl:Tl}{i x:Nat}(h:tl.getD i none=some x):Za9 es bs m tl (i+1)=Za9 es bs m tl i:=by
 unfold Za9
 rw[List.range_succ,List.filter_append,List.filter_cons,if_neg (by rw[h];simp)]
 simp
def BestAt(H:Hp)(v:V):Option (Nat×List Nat)->Prop
 |none=>v= .non
 |some (t,ls)=>∃b l,v= .ref b/\H b=some (.tup [.int (t:Int),.ref l])/\H l=some (.lst (nl ls))
theorem BestAt.same{H H':Hp}{v:V}{o:Option (Nat×List Nat)}(h:BestAt H v o)(s:Same H H'):BestAt H' v o:=by
 cases o with
 |none=>exact h
 |some q=>
  obtain⟨b,l,a1,a2,a3⟩:=h
  exact⟨b,l,a1,s _ _ a2,s _ _ a3⟩
section
variable{P:Program}{w:World}{K:PySem.W.Frag}{mg:Str->Option Value}{base:Heap}
abbrev sBb:Stmt:=top 34
abbrev nBb:List Str:=["_law_net_here","_law_tints","_law_many","_law_own_tints","_law_case","_law_best","_law_k","_law_there","_law_tie","_law_pair"]
abbrev pBb:List Str:=["_law_net_here","_law_tints","_law_many","_law_own_tints","_law_case"]
theorem scBb:Zx nBb pBb (Zd sBb):=⟨rfl,rfl,rfl,by decide+kernel,rfl,by decide+kernel,by decide+kernel⟩
def Zfn(k:Nat):Sp:=fun vs H Q _=>∃(p tq d:Addr)(n:Nat)(q:Addr)(ts:List V)(es:List (Nat×Nat))(x m:Nat)(tl:Tl)(kvs:List (Key×V))(cv:V),vs=[.ref p,.ref tq,.int (m:Int),.ref d,cv]/\Ask H p tq d n q ts es x m tl kvs/\CaseAt es (ZW es x m) m H k tl cv/\
 ∀H',Same H H'->Q (.bl true) H'
theorem Ziw{f:Addr}{fd:FuncData}(F:Fun K "_law_barred_by" "_law_barred_by" sBb f fd):FnOk P w K mg base CX0 2 f fd pBb (Zfn 0):=by
 refine F.ok (k:=1) scBb (fun vs H Q E h=>?_) (fun cdv A outer s H vs Q E hr h=>?_)
 ·obtain⟨p,tq,d,n,q,ts,es,x,m,tl,kvs,cv,rfl,_⟩:=h
  rfl
 ·obtain⟨p,tq,d,n,q,ts,es,x,m,tl,kvs,cv,rfl,_,z,_⟩:=h
  exact z.elim
theorem Ziv{f:Addr}{fd:FuncData}(F:Fun K "_law_barred_by" "_law_barred_by" sBb f fd)(T:Bi mg)(FL:FnE P w K mg base "_law_left" pLe 1 spLe)(FW:FnE P w K mg base "_law_whole" ["_law_found"] 1 (ZaT K))(k:Nat)
  (IH:FnE P w K mg base "_law_barred_by" pBb (k+2) (Zfn k)):FnOk P w K mg base CX0 (k+1+2) f fd pBb (Zfn (k+1)):=by
 refine F.ok (k:=k+2) scBb (fun vs H Q E h=>?_) (fun cdv A outer s H vs Q E hr h=>?_)
 ·obtain⟨p,tq,d,n,q,ts,es,x,m,tl,kvs,cv,rfl,_⟩:=h
  rfl
 ·obtain⟨p,tq,r,n,qa,ts,es,x0,m,tl,kvs,cv,rfl,Z,hca,q⟩:=h
  have hr1:Room 1 _:=hr.mono (by omega)
  have hl2:=Z.N.l200
  have htl:=Z.l
  have hm:=Z.m
  refine⟨_,Zb (Zm (i:=5) scBb.nd rfl (Or.inl rfl) Yj)
   (Zb (ZZ PassesOwn.never rfl (ZM rfl T.range (Ze (Zn Zk rfl T.len Ye (Ze (pv 1) Za)) Za)) (Zt (i:=6) scBb.nd rfl (Or.inl rfl))
    (Zh (Z3 (Zi JM (Zo ZV (pv 1) (pv 6) (fun _ _=>rfl)) Yj (Zp _))
     (Zb (Zm (i:=7) scBb.nd rfl (Or.inl rfl) (Z0 FL hr1 (Ze (pv 0) (Ze (pv 1) (Ze (pv 2) (Ze (pv 3) (Ze (pv 6) Za)))))))
     (Zh (Z3 (PW.pt (pw_or (Zi JM (pv 5) Yj (Zp _)) (pw_or1 (Zi Zbc (Zn Zk rfl T.len Ye (Ze (pv 7) Za)) (Zn Zk rfl T.len Ye (Ze (Zo Zl (pv 5) Zc (fun _ _=>rfl)) Za)) (Zp _)))))
      (Zh (Zm (i:=5) scBb.nd rfl (Or.inl rfl) (Zu (Ze (pv 6) (Ze (pv 7) Za))))) Zr))) Zr)))
   (Zb (Z3 (PW.pt (pw_or (Zi JM (pv 5) Yj (Zp _)) (pw_or (ZY (ZS (Zn ZL rfl T.isi Za3 (Ze (pv 4) (Ze (Yy (v:= .ty "tuple") rfl T.tuple Yh rfl) Za))))) (pw_or (Zi Zbc (Zn Zk rfl T.len Ye (Ze (pv 4) Za)) Zc (Zp _)) (pw_or1 (ZY (ZS (Z0 FW hr1 (Ze (Zo Zl (pv 4) Zc (fun _ _=>rfl)) Za))))))))) Zw Zr)
   (Zb (JH (pv 5) (Zd0 rfl (Yp (Zt (i:=8) scBb.nd rfl (Or.inl rfl)) (Yp (Zt (i:=7) scBb.nd rfl (Or.inl rfl)) JU))))
   (Zb (Z3 (PW.pt (pw_or (Zi YI (Zo Zl (pv 4) Zc (fun _ _=>rfl)) (pv 8) (Zp _)) (pw_or1 (Zi YI (Zo Zl (pv 4) Zc (fun _ _=>rfl)) (Zo ZV (Yb (Ze Yi (Ze Yi Za))) (Z9 ZeY rfl T.int Zk6 (Ze (Ym (ZdZ hr) (pv 7) (Yb Za) rfl) Za)) (fun _ _=>rfl)) (Zp _))))) Zw Zr)
   (Zb (Z3 (Zi (ZdZ hr) (pv 7) (Yb Za) rfl) (Zh (Z2 (Ym ZR (Zn Zk rfl T.len Ye (Ze (pv 4) Za)) Zc (Zp _)))) Zr)
   (Zb (Z3 (PW.pt (pw_or (Zi YI (Zn Zk rfl T.len Ye (Ze (pv 4) Za)) Zc (Zp _)) (pw_or (ZY (ZS (Zn ZL rfl T.isi Za3 (Ze (Zo Zl (pv 4) Zc (fun _ _=>rfl)) (Ze (Yy (v:= .ty "tuple") rfl T.tuple Yh rfl) Za))))) (pw_or1 (Zi YI (Zn Zk rfl T.len Ye (Ze (Zo Zl (pv 4) Zc (fun _ _=>rfl)) Za)) (Zn Zk rfl T.len Ye (Ze (pv 7) Za)) (Zp _)))))) Zw Zr)
   (Zb (ZZ PassesOwn.never rfl (ZM rfl T.range (Ze (Zn Zk rfl T.len Ye (Ze (pv 7) Za)) Za)) (Zt (i:=6) scBb.nd rfl (Or.inl rfl))
    (Zb (Zm (i:=9) scBb.nd rfl (Or.inl rfl) (Zo Zl (Zo Zl (pv 4) Zc (fun _ _=>rfl)) (pv 6) (fun _ _=>rfl)))
    (Zb (Z3 (PW.pt (pw_or (ZY (ZS (Zn ZL rfl T.isi Za3 (Ze (pv 9) (Ze (Yy (v:= .ty "tuple") rfl T.tuple Yh rfl) Za))))) (pw_or (Zi YI (Zn Zk rfl T.len Ye (Ze (pv 9) Za)) Zc (Zp _)) (pw_or (ZY (ZS (Z0 FW hr1 (Ze (Zo Zl (pv 9) Zc (fun _ _=>rfl)) Za)))) (pw_or1 (Zi YI (Zo Zl (pv 9) Zc (fun _ _=>rfl)) (Zo ZV (pv 7) (pv 6) (fun _ _=>rfl)) (Zp _))))))) Zw Zr)
    (Zh (Z3 (ZY (ZS (Z0 IH hr (Ze (pv 0) (Ze (Zq Jr (Zq Jr (Yx J6 (pv 1) YF (YE (pv 8))) (Yb (Ze (Zo ZV (pv 7) (pv 6) (fun _ _=>rfl)) Za))) (Yx J6 (pv 1) (YE (Zq ZE (pv 8) Zc)) YF)) (Ze (pv 2) (Ze (pv 3) (Ze (Zo Zl (pv 9) Zc (fun _ _=>rfl)) Za)))))))) Zw Zr)))))
   (Zh (Z2 ZcF))))))))),?_⟩
  obtain⟨t,ls,a,hbest,rfl,hcs⟩:=hca
  obtain⟨b1,b2,b3,b4⟩:=ZaO hbest
  refine⟨_,rfl,tq,_,rfl,.inl (SqL.of Z.t),_,rfl,by rw[Y9];omega,by rw[Y9];omega,?_⟩
  rw[Y9]
  refine ZT (lo:=0) (n:=((tl.length:Nat):Int).toNat) (fun i σ G=>∃(v5:V)(v6 v7:Option V),σ=[some (.ref p),some (.ref tq),some (.int (m:Int)),some (.ref r),some (.ref a),some v5,v6,v7,none,none]/\Same H G/\BestAt G v5 (best (Za9 es (ZW es x0 m) m tl i)))
   ⟨_,_,_,rfl,Same.refl H,rfl⟩ (fun i σ G hi⟨v5,v6,v7,e,sG,hB⟩=>?_) (fun σ G⟨v5,v6,v7,e,sG,hB⟩=>?_)
  ·subst e
   rw[Int.toNat_natCast]at hi
   rw[Int.zero_add]
   obtain⟨o,ho⟩:∃o,tl[i]?=some o:=⟨_,List.getElem?_eq_getElem hi⟩
   have hod:tl.getD i none=o:=by rw[List.getD_eq_getElem?_getD,ho];rfl
   refine⟨_,rfl,_,rfl,tq,_,_,_,rfl,rfl,SqL.of (sG _ _ Z.t),ZH (Zcb ho),rfl,_,rfl,?_⟩
   cases o with
   |some x=>
    refine Zy ⟨_,_,_,rfl,sG,?_⟩
    rw[ZeI hod]
    exact hB
   |none=>
    refine Yr ⟨_,rfl,_,rfl,_,rfl,_,rfl,_,rfl,p,tq,r,n,qa,ts,es,x0,m,tl,kvs,i,rfl,Z.same sG,by omega,fun G1 l s1 hl=>?_⟩
    have sG1:=Same.trans sG s1
    have hB1:=hB.same s1
    rw[ZfR hod,YV]
    cases hbb:best (Za9 es (ZW es x0 m) m tl i)with
    |none=>
     rw[hbb]at hB1
     cases(show v5= .non from hB1)
     refine⟨_,rfl,rfl,_,rfl,Yr (Yr ⟨_,rfl,_,rfl,rfl,fun b G2 s2 hb=>⟨_,_,_,rfl,Same.trans sG1 s2,b,l,rfl,hb,s2 _ _ hl⟩⟩)⟩
    |some bq=>
     obtain⟨t,ls⟩:=bq
     rw[hbb]at hB1
     obtain⟨b,l0,rfl,hb,hl0⟩:=hB1
     refine⟨_,rfl,rfl,_,rfl,Zy ?_⟩
     refine⟨_,rfl,l,_,rfl,.inl (SqL.of hl),_,rfl,b,_,_,_,rfl,rfl,SqT.of hb,rfl,l0,_,rfl,.inl (SqL.of hl0),_,_,rfl,rfl,_,rfl,?_⟩
     rw[Z8,Z8]
     unfold stp
     dsimp only
     refine ZQ (fun z=>?_) (fun z=>?_)
     ·rw[if_pos (by have:=of_decide_eq_true z;omega)]
      exact⟨_,rfl,_,rfl,rfl,fun b' G2 s2 hb'=>⟨_,_,_,rfl,Same.trans sG1 s2,b',l,rfl,hb',s2 _ _ hl⟩⟩
     ·rw[if_neg fun y=>z (decide_eq_true (by omega))]
      exact⟨_,_,_,rfl,sG1,b,l0,rfl,hb,hl0⟩
  ·subst e
   rw[Int.toNat_natCast]at hB
   have hB:BestAt G v5 (best (lfs es (ZW es x0 m) m tl)):=hB
   rw[hbest]at hB
   obtain⟨bb,bl,rfl,hbb,hbl⟩:=hB
   have ZG:=Z.same sG
   rcases hcs with⟨rfl,ha⟩|⟨hne,cb,vs,ha,hcb,hvl,hk⟩
   ·have haG:=sG _ _ ha
    refine⟨_,rfl,rfl,_,rfl,Zy ?_⟩
    refine⟨_,rfl,_,_,_,_,rfl,.tup haG,kit K "tuple" "tuple" true (by decide+kernel),_,rfl,Zy ?_⟩
    refine⟨_,rfl,a,_,rfl,.inr (SqT.of haG),_,_,rfl,rfl,_,rfl,Zy ?_⟩
    refine⟨_,rfl,a,_,_,_,rfl,rfl,SqT.of haG,rfl,_,rfl,.inl ⟨_,rfl,_,rfl,Zy ?_⟩⟩
    refine⟨_,rfl,bb,_,rfl,SqT.of hbb,rfl,_,_,rfl,_,_,rfl,rfl,?_⟩
    refine⟨_,rfl,a,_,_,_,rfl,rfl,SqT.of haG,rfl,_,rfl,rfl,_,rfl,?_⟩
    rw[decide_eq_true rfl]
    refine Zy ⟨_,rfl,a,_,_,_,rfl,rfl,SqT.of haG,rfl,rfl,fun l1 G1 s1 h1=>⟨_,rfl,rfl,fun l0 G0 s0 h0=>?_⟩⟩
    refine⟨bl,l0,_,rfl,rfl,SqL.of (s0 _ _ (s1 _ _ hbl)),SqL.of h0,.inr ⟨_,rfl,l1,_,_,_,rfl,rfl,SqL.of (s0 _ _ h1),rfl,rfl,_,rfl,Zy ?_⟩⟩
    refine⟨_,rfl,rfl,fun l3 G3 s3 h3=>⟨bl,l3,_,rfl,rfl,SqL.of (s3 _ _ (s0 _ _ (s1 _ _ hbl))),SqL.of h3,_,rfl,Yr ?_⟩⟩
    have s13:=Same.trans s1 (Same.trans s0 s3)
    refine⟨_,rfl,a,_,rfl,.inr (SqT.of (s13 _ _ haG)),rfl,?_⟩
    exact q G3 (Same.trans sG s13)
   ·have haG:=sG _ _ ha
    have hcG:=sG _ _ hcb
    refine⟨_,rfl,rfl,_,rfl,Zy ?_⟩
    refine⟨_,rfl,_,_,_,_,rfl,.tup haG,kit K "tuple" "tuple" true (by decide+kernel),_,rfl,Zy ?_⟩
    refine⟨_,rfl,a,_,rfl,.inr (SqT.of haG),_,_,rfl,rfl,_,rfl,Zy ?_⟩
    refine⟨_,rfl,a,_,_,_,rfl,rfl,SqT.of haG,rfl,_,rfl,.inl ⟨_,rfl,_,rfl,Zy ?_⟩⟩
    refine⟨_,rfl,bb,_,rfl,SqT.of hbb,rfl,_,_,rfl,_,_,rfl,rfl,?_⟩
    refine⟨_,rfl,a,_,_,_,rfl,rfl,SqT.of haG,rfl,_,rfl,rfl,_,rfl,?_⟩
    rw[decide_eq_true rfl]
    have hl0:((nl ls).length==0)=false:=by
     rw[Z8]
     cases ls with
     |nil=>exact absurd rfl hne
     |cons _ _=>rfl
    refine Zy ⟨_,rfl,a,_,_,_,rfl,rfl,SqT.of haG,rfl,rfl,fun l1 G1 s1 h1=>⟨_,rfl,rfl,fun l0 G0 s0 h0=>?_⟩⟩
    refine⟨bl,l0,_,rfl,rfl,SqL.of (s0 _ _ (s1 _ _ hbl)),SqL.of h0,.inr ⟨_,rfl,l1,_,_,.str "tie",rfl,rfl,SqL.of (s0 _ _ h1),by rw[hl0];rfl,rfl,_,rfl,Zy ?_⟩⟩
    refine⟨_,rfl,rfl,fun l3 G3 s3 h3=>⟨bl,l3,_,rfl,rfl,SqL.of (s3 _ _ (s0 _ _ (s1 _ _ hbl))),SqL.of h3,_,rfl,?_⟩⟩
    rw[hl0]
    refine Zy ?_
    have s13:=Same.trans s1 (Same.trans s0 s3)
    have haG0:=s13 _ _ haG
    have hcG0:=s13 _ _ hcG
    have hbl0:=s13 _ _ hbl
    have sG0:=Same.trans sG s13
    refine⟨_,rfl,a,_,rfl,.inr (SqT.of haG0),rfl,_,rfl,Zy ?_⟩
    refine⟨_,rfl,a,_,_,_,rfl,rfl,SqT.of haG0,rfl,_,_,_,_,rfl,.tup hcG0,kit K "tuple" "tuple" true (by decide+kernel),_,rfl,Zy ?_⟩
    refine⟨_,rfl,a,_,_,_,rfl,rfl,SqT.of haG0,rfl,cb,_,rfl,.inr (SqT.of hcG0),_,rfl,bl,_,rfl,.inl (SqL.of hbl0),rfl,_,rfl,?_⟩
    rw[decide_eq_true (by rw[hvl,Z8])]
    refine Zy ?_
    refine⟨_,rfl,bl,_,rfl,.inl (SqL.of hbl0),_,rfl,by rw[Z8];omega,?_,?_⟩
    ·rw[Z8]
     have h1:=Zct es (ZW es x0 m) m tl t
     rw[<-b4]at h1
     omega
    rw[Z8]
    refine ZT (lo:=0) (n:=((ls.length:Nat):Int).toNat) (fun i σ G=>∃(v6 v9:Option V),σ=[some (.ref p),some (.ref tq),some (.int (m:Int)),some (.ref r),some (.ref a),some (.ref bb),v6,some (.ref bl),some (.int (t:Int)),v9]/\Same G3 G)
     ⟨_,_,rfl,Same.refl G3⟩ (fun i σ G1 hi⟨v6,v9,e,s1⟩=>?_) (fun σ G1⟨v6,v9,e,s1⟩=>?_)
    ·subst e
     rw[Int.toNat_natCast]at hi
     rw[Int.zero_add]
     obtain⟨x,hx⟩:∃x,ls[i]?=some x:=⟨_,List.getElem?_eq_getElem hi⟩
     obtain⟨c,y,hvi,hc,hcy⟩:=hk i x hx
     have sH1:Same H G1:=Same.trans sG0 s1
     have ha1:=sH1 _ _ ha
     have hcb1:=sH1 _ _ hcb
     have hc1:=sH1 _ _ hc
     have hbl1:=s1 _ _ hbl0
     have Z1:=Z.same sH1
     refine⟨_,rfl,a,_,_,_,rfl,rfl,SqT.of ha1,rfl,_,rfl,cb,_,_,_,rfl,rfl,SqT.of hcb1,ZH hvi,?_⟩
     refine⟨_,rfl,_,_,_,_,rfl,.tup hc1,kit K "tuple" "tuple" true (by decide+kernel),_,rfl,Zy ?_⟩
     refine⟨_,rfl,c,_,rfl,.inr (SqT.of hc1),rfl,_,rfl,Zy ?_⟩
     refine⟨_,rfl,c,_,_,_,rfl,rfl,SqT.of hc1,rfl,_,rfl,.inl ⟨_,rfl,_,rfl,Zy ?_⟩⟩
     refine⟨_,rfl,c,_,_,_,rfl,rfl,SqT.of hc1,rfl,_,rfl,_,rfl,bl,_,_,_,rfl,rfl,SqL.of hbl1,ZH (Zd7 hx),rfl,_,rfl,?_⟩
     rw[decide_eq_true rfl]
     refine Zy ?_
     have htl2:(tv tl).length=tl.length:=Y9 tl
     refine⟨_,rfl,_,rfl,_,rfl,_,rfl,tq,_,rfl,SqL.of Z1.t,fun p1 hp1=>?_⟩
     have sp1:Same G1 (upd G1 p1 (.lst (Ys (tv tl) none (some (t:Int))))):=Zs hp1
     refine⟨_,rfl,_,rfl,bl,_,_,_,rfl,rfl,SqL.of (sp1 _ _ hbl1),ZH (Zd7 hx),rfl,fun p2 G2 s2 h2=>⟨p1,p2,_,_,rfl,rfl,s2 _ _ Zf,h2,?_,fun p3 G3 s3 h3=>?_⟩⟩
     ·have:=ZK (tv tl) none (some (t:Int))
      simp only[List.length_cons,List.length_nil]
      omega
     have sG3:Same G1 G3:=Same.trans sp1 (Same.trans s2 s3)
     refine⟨_,rfl,_,rfl,_,_,rfl,rfl,_,rfl,tq,_,rfl,SqL.of (sG3 _ _ Z1.t),fun p4 hp4=>?_⟩
     have sp4:Same G3 (upd G3 p4 (.lst (Ys (tv tl) (some ((t:Int)+1)) none))):=Zs hp4
     refine⟨p3,p4,_,_,rfl,rfl,sp4 _ _ h3,Zf,?_,fun p5 G5 s5 h5=>?_⟩
     ·have:=ZK (tv tl) none (some (t:Int))
      have:=ZK (tv tl) (some ((t:Int)+1)) none
      simp only[List.length_append,List.length_cons,List.length_nil]
      omega
     rw[Zes b2]at h5
     have sG5:Same G1 G5:=Same.trans sG3 (Same.trans sp4 s5)
     have Z5:=Z1.same sG5
     refine⟨_,rfl,_,rfl,_,rfl,c,_,_,_,rfl,rfl,SqT.of (sG5 _ _ hc1),rfl,p,p5,r,n,qa,ts,es,x0,m,tl.set t (some x),kvs,y,rfl,⟨Z5.N,h5,by rw[List.length_set];exact htl,Z5.d,Z5.o,Z5.m⟩,hcy.keep (Same.keepT (Same.trans sH1 sG5)),fun G6 s6=>?_⟩
     exact⟨_,rfl,Zy ⟨_,_,rfl,Same.trans s1 (Same.trans sG5 s6)⟩⟩
    ·subst e
     exact q G1 (Same.trans sG0 s1)
def spBbA:Sp:=fun vs H Q E=>∃k,k<=40/\Zfn k vs H Q E
theorem Zd3{f:Addr}{fd:FuncData}(F:Fun K "_law_barred_by" "_law_barred_by" sBb f fd)(T:Bi mg)(FL:FnE P w K mg base "_law_left" pLe 1 spLe)(FW:FnE P w K mg base "_law_whole" ["_law_found"] 1 (ZaT K))(g:mg "_law_barred_by"=some (.ref f))(kp:PySem.W.keepIn K (.ref f)=true)(b:L2.Binds K fd pBb []):
  ∀k,FnOk P w K mg base CX0 (k+2) f fd pBb (Zfn k)
 |0=>Ziw F
 |k+1=>Ziv F T FL FW k ⟨⟨f,fd,Zd3 F T FL FW g kp b k,g,kp,b⟩⟩
theorem ZjM{f:Addr}{fd:FuncData}(F:Fun K "_law_barred_by" "_law_barred_by" sBb f fd)(T:Bi mg)(FL:FnE P w K mg base "_law_left" pLe 1 spLe)(FW:FnE P w K mg base "_law_whole" ["_law_found"] 1 (ZaT K))(g:mg "_law_barred_by"=some (.ref f))(kp:PySem.W.keepIn K (.ref f)=true)(b:L2.Binds K fd pBb []):
  FnOk P w K mg base CX0 42 f fd pBb spBbA:=
 ⟨fun vs H Q E⟨k,_,h⟩=>(Zd3 F T FL FW g kp b k).len vs H Q E h,fun A outer s H args us vs Q E hr he hb hv⟨k,hk,h⟩=>(Zd3 F T FL FW g kp b k).run A outer s H args us vs Q E (hr.mono (by omega)) he hb hv h⟩
end
end My
set_option maxHeartbeats 2000000
namespace My
open PySem L2 Cs
theorem Zl8:bootBuiltins "str"=some (.type "str"):=by decide+kernel
theorem Bd.fst{H:Hp}{es:List (Nat×Nat)}{n:Nat}{t:Addr}{M N:Int}{o:Option (List Nat)}(h:Bd H es n t)(hM:IsMax (dl es n) M)(h0:0<M)(hb:YO es n M (parts n).length=(N,o)):∃v,H t=some (.tup [.int N,v]):=by
 obtain⟨M',hM',c⟩:=h
 cases hM.uniq hM'
 rcases c with⟨a,_⟩|⟨_,N',v,b,_,_,_,o',ho,_⟩
 ·omega
 ·rw[hb]at ho
  cases ho
  exact⟨v,b⟩
theorem Zde{es:List (Nat×Nat)}{n:Nat}{M:Int}:∀i,M<=(YO es n M i).1:=by
 intro i
 unfold YO
 have key:∀(l:List (List Nat))(s:Int×Option (List Nat)),s.1<=(l.foldl (ZcA es) s).1:=by
  intro l
  induction l with
  |nil=>intro s;exact Int.le_refl _
  |cons a l ih=>
   intro s
   refine Int.le_trans ?_ (ih _)
   unfold ZcA
   split
   ·next h=>exact Int.le_of_lt h
   ·exact Int.le_refl _
 exact key _ _
theorem ZhJ(n:Nat):tv (List.replicate n none)=List.replicate n V.non:=by
 unfold tv
 rw[List.map_replicate]
 rfl
structure OwnT(kvs:List (Key×V))(es:List (Nat×Nat))(x i:Nat):Prop where
 len:kvs.length=(Z4 es x i).length
 val:∀k:Nat,ZX kvs (Sum.inl (k:Int))=if k<i/\atB (es.getD k (0,0)) x=true then some (V.int ((Z4 es x k).length:Int))else none
theorem OwnT.put{kvs:List (Key×V)}{es:List (Nat×Nat)}{x i:Nat}(h:OwnT kvs es x i)(ha:At (es.getD i (0,0)) x):OwnT (putK kvs (Sum.inl (i:Int)) (V.int ((kvs.length:Nat):Int))) es x (i+1):=by
 have hn:ZX kvs (Sum.inl (i:Int))=none:=by rw[h.val,if_neg (fun z=>absurd z.1 (Nat.lt_irrefl _))]
 refine⟨?_,fun k=>?_⟩
 ·rw[ZcD _ hn,List.length_append,h.len,YX ha,List.length_append]
  rfl
 ·rw[ZaQ]
  by_cases hk:k=i
  ·subst hk
   rw[if_pos rfl,if_pos ⟨Nat.lt_succ_self _,atB_iff.mpr ha⟩,h.len]
  ·rw[if_neg (fun z=>hk (by have:=Sum.inl.inj z;omega)),h.val]
   by_cases hc:k<i/\atB (es.getD k (0,0)) x=true
   ·rw[if_pos hc,if_pos ⟨Nat.lt_succ_of_lt hc.1,hc.2⟩]
   ·rw[if_neg hc,if_neg (fun z=>hc ⟨by have:=z.1;omega,z.2⟩)]
theorem OwnT.skip{kvs:List (Key×V)}{es:List (Nat×Nat)}{x i:Nat}(h:OwnT kvs es x i)(ha:¬At (es.getD i (0,0)) x):OwnT kvs es x (i+1):=by
 refine⟨by rw[h.len,YW ha],fun k=>?_⟩
 rw[h.val]
 by_cases hc:k<i/\atB (es.getD k (0,0)) x=true
 ·rw[if_pos hc,if_pos ⟨Nat.lt_succ_of_lt hc.1,hc.2⟩]
 ·rw[if_neg hc,if_neg (fun z=>hc ⟨by
   rcases Nat.lt_or_ge k i with q|q
   ·exact q
   ·have:k=i:=by have:=z.1;omega
    subst this
    exact absurd (atB_iff.mp z.2) ha,z.2⟩)]
theorem OwnT.own{kvs:List (Key×V)}{es:List (Nat×Nat)}{x:Nat}(h:OwnT kvs es x es.length):ZkA kvs es x:=fun k hk=>by
 rw[h.val]
 by_cases ha:atB (es.getD k (0,0)) x=true
 ·rw[if_pos ⟨hk,ha⟩,if_pos ha]
 ·rw[if_neg (fun z=>ha z.2),if_neg ha]
theorem ZjO:¬(V.str "part"=V.str "point"):=by decide
theorem ZjQ:¬(V.str "cases"=V.str "point"):=by decide
theorem ZjP:¬(V.str "cases"=V.str "part"):=by decide
section
variable{P:Program}{w:World}{K:PySem.W.Frag}{mg:Str->Option Value}{base:Heap}
abbrev sPf:Stmt:=top 35
abbrev nPf:List Str:=["_law_net_here","_law_number","_law_paper","_law_crowded","_law_at_most","_law_own_tints","_law_k"]
abbrev pPf:List Str:=["_law_net_here","_law_number","_law_paper"]
def pfC:Stmt->Scope
 | .Return (some (.Call _ (_:: .ListComp _ _ s _::_) _ _)) _=>s
 |_=>{kind:= .function,names:=[],isGenerator:=false,isCoroutine:=false}
abbrev pfS:Scope:=pfC (Jl 35 8)
theorem scPf:Zx nPf pPf (Zd sPf):=⟨rfl,rfl,rfl,by decide+kernel,rfl,by decide+kernel,by decide+kernel⟩
theorem Zlk:(["_law_tie"]:List Str).Nodup:=by decide+kernel
theorem Zkp{f:Addr}{cdv:Value}{A:Around}{outer:List Env}{s:Shared}{H:Hp}{E:XK}:
  Blk (ZF CX0 P w K mg base nPf "_law_paper_fits" (Zd sPf) f cdv A outer s H E).nox pfS [] ["_law_tie"] [none]:=by
 refine⟨rfl,rfl,by decide+kernel,by decide+kernel,fun p hp=>(by cases hp),fun y hy e=>?_,trivial⟩
 have hy':y∈[((PySem.Str.ofString ".0":Str),NameKind.local),(PySem.Str.ofString "_law_tie",.local)]:=hy
 simp only[List.mem_cons,List.not_mem_nil,or_false]at hy'
 rcases hy' with rfl|rfl<;>cases e
def spPf:Sp:=fun vs H Q _=>∃(p:Addr)(n:Nat)(q:Addr)(ts:List V)(es:List (Nat×Nat))(M:Int)(x N k:Nat)(o:Option (List Nat))(v:V),vs=[.ref p,.int (k:Int),v]/\NetZ H p n q ts es/\n<=9/\es.length<=40/\IsMax (dl es n) M/\0<M/\(ZP es M n)[0]?=some x/\YO es n M (parts n).length=((N:Int),o)/\
 ((k=N/\Pap H es n M (N:Int) v)\/(N<k/\k<=900/\gx es x (k-1)=none/\Zc3 es (ZW es x (k-1)) (k-1) H v))/\∀H',Same H H'->Q (.bl true) H'
theorem Zj1{f:Addr}{fd:FuncData}(F:Fun K "_law_paper_fits" "_law_paper_fits" sPf f fd)(T:Bi mg)(hst:mg "str"=none)(FC:FnE P w K mg base "_law_crowds" ["_law_net_here"] 1 spLc)(FW:FnE P w K mg base "_law_whole" ["_law_found"] 1 (ZaT K))
  (FL:FnE P w K mg base "_law_bar" ["_law_net_here","_law_part"] 1 spLb)(FB:FnE P w K mg base "bound" ["net"] 5 spBd)(FBb:FnE P w K mg base "_law_barred_by" pBb 42 spBbA):FnOk P w K mg base CX0 43 f fd pPf spPf:=by
 refine F.ok (k:=42) scPf (fun vs H Q E h=>?_) (fun cdv A outer s H vs Q E hr h=>?_)
 ·obtain⟨p,n,q,ts,es,M,x,N,k,o,v,rfl,_⟩:=h
  rfl
 ·obtain⟨p,n,qa,ts,es,M,x,NN,k,o,v,rfl,N,n9,h40,hM,hM0,hx,hbo,hP,q⟩:=h
  have hr1:Room 1 _:=hr.mono (by omega)
  have hr5:Room 5 _:=hr.mono (by omega)
  have hu:=Zbn hr
  have hlen:=N.len
  have hge:M<=(NN:Int):=by have:=Zde (es:=es) (n:=n) (M:=M) (parts n).length;rw[hbo]at this;exact this
  refine⟨_,Zb (Zm (i:=3) scPf.nd rfl (Or.inl rfl) (Z0 FC hr1 (Ze (pv 0) Za)))
   (Zb (Zm (i:=4) scPf.nd rfl (Or.inl rfl) (Zn (ZbU rfl) rfl T.max ZiQ (Ze (pv 3) Za)))
   (Zb (Z3 (PW.pt (pw_or (ZY (ZS (Zn ZL rfl T.isi Za3 (Ze (pv 2) (Ze (Yy (v:= .ty "tuple") rfl T.tuple Yh rfl) Za)))))
    (pw_or (Zi YI (Zn Zk rfl T.len Ye (Ze (pv 2) Za)) Zc (Zp _))
    (pw_or1 (ZY (ZS (Zn ZL rfl T.isi Za3 (Ze (Zo Zl (pv 2) Zc (fun _ _=>rfl)) (Ze (Yy (v:= .ty "str") rfl hst Zl8 rfl) Za))))))))) Zw Zr)
   (Zb (Z3 (Zi ZR (Zo Zl (pv 2) Zc (fun _ _=>rfl)) Yi (Zp _))
    (Zh (Z2 (Jq (Ym ZR (pv 1) (pv 4) (Zp _)) (Jq (Z0 FW hr1 (Ze (Zo Zl (pv 2) Zc (fun _ _=>rfl)) Za)) (JI (Ym ZR (Zo Zl (pv 2) Zc (fun _ _=>rfl)) (Jo PySem.F.plainAttrs_list PySem.F.slot_list_index PySem.F.type_list_index (Zaw (K:=K) rfl) (pv 3) (Ze (pv 4) Za)) (Zp _))))))) Zr)
   (Zb (Z3 (Zi ZR (Zo Zl (pv 2) Zc (fun _ _=>rfl)) Yi (Zp _))
    (Zh (Z2 (Jq (Ym Za6 (pv 1) (pv 4) (Zp _)) (Jq (Ym ZR (Z0 FL hr1 (Ze (pv 0) (Ze (Zo Zl (pv 2) Zc (fun _ _=>rfl)) Za))) (pv 1) (Zp _)) (JI (Ym ZR (Zo Zl (Z0 FB hr5 (Ze (pv 0) Za)) Zc (fun _ _=>rfl)) (pv 1) (Zp _))))))) Zr)
   (Zb (Z3 (PW.pt (pw_or (Zi YI (Zo Zl (pv 2) Zc (fun _ _=>rfl)) Yi (Zp _)) (pw_or1 (Zi ZfC (Zo Zl (Z0 FB hr5 (Ze (pv 0) Za)) Zc (fun _ _=>rfl)) (pv 1) (Zp _))))) Zw Zr)
   (Zb (Zm (i:=5) scPf.nd rfl (Or.inl rfl) Zf4)
   (Zb (ZZ PassesOwn.never rfl (ZM rfl T.range (Ze (Zn Zk rfl T.len Ye (Ze (Zo Zl (pv 0) Zc (fun _ _=>rfl)) Za)) Za)) (Zt (i:=6) scPf.nd rfl (Or.inl rfl))
    (Zh (Z3 (Zi Y1 (Jo PySem.F.plainAttrs_list PySem.F.slot_list_index PySem.F.type_list_index (Zaw (K:=K) rfl) (pv 3) (Ze (pv 4) Za)) (Zo Zl (Zo Zl (pv 0) Zc (fun _ _=>rfl)) (pv 6) (fun _ _=>rfl)) rfl)
     (Zh (Zck hu (pv 5) (pv 6) (Zn ZeX rfl T.len Ye (Ze (pv 5) Za)) rfl)) Zr)))
   (Zh (Z2 (Z0 FBb hr (Ze (pv 0) (Ze (JJ Zkp rfl (Zo Zl (pv 0) Zc (fun _ _=>rfl)) (Y6 (ZJ 0) (YB _)) (fun C fp s H=>Zt (i:=0) Zlk rfl (Or.inl rfl)) (fun C fp s H=>YK) (fun C fp s H=>Yj)) (Ze (Zq Jd (pv 1) Zc) (Ze (pv 5) (Ze (Zo Zl (pv 2) Zc (fun _ _=>rfl)) Za))))))))))))))),?_⟩
  have hdl:0<(dl es n).length:=by
   rw[Zcv]
   have:=(Y7 hx).2.1
   omega
  refine⟨_,rfl,p,n,qa,ts,es,rfl,N,fun H1 l s1 hl=>?_⟩
  refine⟨_,rfl,l,dl es n,rfl,.inl (SqL.of hl),hdl,fun M1 m1 m2=>?_⟩
  cases hM.uniq (show IsMax (dl es n) M1 from .inr ⟨m1,m2⟩)
  have N1:=N.same s1
  rcases hP with⟨rfl,hP⟩|⟨hlt,h900,hgx,hR⟩
  ·rcases hP with⟨eN,u,y,rfl,hu,hy⟩|⟨lt,u,t,l',rfl,hu,ht,hl',hb⟩
   ·have hu1:=s1 _ _ hu
    refine⟨_,rfl,_,_,_,_,rfl,.tup hu1,kit K "tuple" "tuple" true (by decide+kernel),_,rfl,Zy ?_⟩
    refine⟨_,rfl,u,_,rfl,.inr (SqT.of hu1),rfl,_,rfl,Zy ?_⟩
    refine⟨_,rfl,u,_,_,_,rfl,rfl,SqT.of hu1,rfl,_,_,_,_,rfl,.str _,kit K "str" "str" true (by decide+kernel),_,rfl,Zy ?_⟩
    refine⟨_,rfl,u,_,_,_,rfl,rfl,SqT.of hu1,rfl,rfl,_,rfl,Yr ?_⟩
    refine⟨_,rfl,_,rfl,rfl,_,rfl,?_⟩
    refine ZQ (fun _=>?_) (fun z=>absurd (decide_eq_true (by rw[eN])) z)
    refine⟨_,rfl,u,_,_,_,rfl,rfl,SqT.of hu1,rfl,_,rfl,.inl ⟨_,rfl,_,rfl,Yr ?_⟩⟩
    refine⟨_,rfl,u,_,_,_,rfl,rfl,SqT.of hu1,rfl,_,rfl,.inl ⟨rfl,_,SqL.of hl⟩,_,rfl,l,dl es n,M,rfl,rfl,SqL.of hl,m1,fun j h1 h2=>?_⟩
    cases Zbv hy h1 h2
    refine⟨rfl,?_⟩
    rw[decide_eq_true rfl]
    exact q H1 s1
   ·have hu1:=s1 _ _ hu
    have ht1:=s1 _ _ ht
    refine⟨_,rfl,_,_,_,_,rfl,.tup hu1,kit K "tuple" "tuple" true (by decide+kernel),_,rfl,Zy ?_⟩
    refine⟨_,rfl,u,_,rfl,.inr (SqT.of hu1),rfl,_,rfl,Zy ?_⟩
    refine⟨_,rfl,u,_,_,_,rfl,rfl,SqT.of hu1,rfl,_,_,_,_,rfl,.str _,kit K "str" "str" true (by decide+kernel),_,rfl,Zy ?_⟩
    refine⟨_,rfl,u,_,_,_,rfl,rfl,SqT.of hu1,rfl,rfl,_,rfl,?_⟩
    rw[decide_eq_false ZjO]
    refine Zy ?_
    refine⟨_,rfl,u,_,_,_,rfl,rfl,SqT.of hu1,rfl,rfl,_,rfl,Yr ?_⟩
    refine⟨_,rfl,_,rfl,_,_,rfl,rfl,_,rfl,?_⟩
    refine ZQ (fun _=>?_) (fun z=>absurd (decide_eq_true (by omega)) z)
    refine⟨_,rfl,_,rfl,u,_,_,_,rfl,rfl,SqT.of hu1,rfl,p,t,n,qa,ts,es,l',rfl,N1,ht1,hl',fun H2 s2=>?_⟩
    refine⟨_,rfl,rfl,_,rfl,?_⟩
    refine ZQ (fun _=>?_) (fun z=>absurd (decide_eq_true (by rw[hb])) z)
    refine⟨_,rfl,p,n,qa,ts,es,rfl,N1.same s2,n9,fun H3 t3 s3 hB=>?_⟩
    obtain⟨bv,ht3⟩:=hB.fst hM hM0 hbo
    refine⟨t3,_,_,_,rfl,rfl,SqT.of ht3,rfl,_,rfl,rfl,?_⟩
    rw[decide_eq_true rfl]
    exact q H3 (Same.trans s1 (Same.trans s2 s3))
  ·obtain⟨a,y,rfl,ha,hy⟩:=hR.case hgx
   have ha1:=s1 _ _ ha
   refine⟨_,rfl,_,_,_,_,rfl,.tup ha1,kit K "tuple" "tuple" true (by decide+kernel),_,rfl,Zy ?_⟩
   refine⟨_,rfl,a,_,rfl,.inr (SqT.of ha1),rfl,_,rfl,Zy ?_⟩
   refine⟨_,rfl,a,_,_,_,rfl,rfl,SqT.of ha1,rfl,_,_,_,_,rfl,.str _,kit K "str" "str" true (by decide+kernel),_,rfl,Zy ?_⟩
   refine⟨_,rfl,a,_,_,_,rfl,rfl,SqT.of ha1,rfl,rfl,_,rfl,?_⟩
   rw[decide_eq_false ZjQ]
   refine Zy ?_
   refine⟨_,rfl,a,_,_,_,rfl,rfl,SqT.of ha1,rfl,rfl,_,rfl,?_⟩
   rw[decide_eq_false ZjP]
   refine Zy ?_
   refine⟨_,rfl,a,_,_,_,rfl,rfl,SqT.of ha1,rfl,rfl,_,rfl,Zy ?_⟩
   refine⟨_,rfl,p,n,qa,ts,es,rfl,N1,n9,fun H3 t3 s3 hB=>?_⟩
   obtain⟨bv,ht3⟩:=hB.fst hM hM0 hbo
   refine⟨t3,_,_,_,rfl,rfl,SqT.of ht3,rfl,_,rfl,_,_,rfl,rfl,_,rfl,?_⟩
   refine ZQ (fun z=>absurd (of_decide_eq_true z) (by omega)) (fun _=>?_)
   refine fun d hd=>?_
   have s13:=Same.trans s1 s3
   have hd0:H d=none:=Same.none s13 hd
   have sD:Same H3 (upd H3 d (.dK [])):=Zs hd
   have s1D:=Same.trans s13 sD
   have ND:=N.same s1D
   have hl3:H3 l=some _:=s3 _ _ hl
   have hld:l≠d:=fun z=>by rw[z,hd]at hl3;cases hl3
   refine⟨_,rfl,p,_,_,_,rfl,rfl,SqT.of ND.e1,rfl,qa,_,rfl,.inr (SqT.of ND.e2),_,rfl,by omega,by omega,?_⟩
   rw[hlen]
   refine ZT (lo:=0) (n:=((es.length:Nat):Int).toNat) (fun i σ G=>∃(v6:Option V)(kvs:List (Key×V)),σ=[some (.ref p),some (.int (k:Int)),some (.ref a),some (.ref l),some (.int M),some (.ref d),v6]/\Same H G/\G l=some (.lst ((dl es n).map V.int))/\G d=some (.dK kvs)/\OwnT kvs es x i)
    ⟨_,[],rfl,s1D,by rw[Zg hld];exact hl3,Zf,⟨rfl,fun k=>by rw[if_neg (fun z=>absurd z.1 (Nat.not_lt_zero _))];rfl⟩⟩ (fun i σ G hi⟨v6,kvs,e,sG,hlG,hdG,hO⟩=>?_) (fun σ G⟨v6,kvs,e,sG,hlG,hdG,hO⟩=>?_)
   ·subst e
    rw[Int.toNat_natCast]at hi
    rw[Int.zero_add]
    have NG:=N.same sG
    obtain⟨tk,htk,hta⟩:=NG.at' hi
    refine⟨_,rfl,.inl ⟨rfl,_,SqL.of hlG⟩,_,rfl,l,dl es n,M,rfl,rfl,SqL.of hlG,m1,fun j h1 h2=>?_⟩
    cases Zbv hx h1 h2
    refine⟨_,rfl,p,_,_,_,rfl,rfl,SqT.of NG.e1,rfl,_,rfl,qa,_,_,_,rfl,rfl,SqT.of NG.e2,ZH htk,tk,_,rfl,.inr (SqT.of hta),rfl,rfl,_,rfl,?_⟩
    refine ZQ (fun hh=>?_) (fun hh=>?_)
    ·have hA:=(YM x (es.getD i (0,0))).mp hh
     have hkl:=hO.len
     have hal:=JC es x i
     refine⟨_,rfl,d,_,rfl,hdG,_,rfl,_,rfl,d,_,rfl,DPut.k (k:=Sum.inl (i:Int)) hdG (Nat.lt_of_lt_of_le (show kvs.length<1000 by omega) (Yq (by decide))),_,_,rfl,sG.wr hd0,?_,Zf,hO.put hA⟩
     rw[Zg hld]
     exact hlG
    ·exact⟨_,_,rfl,sG,hlG,hdG,hO.skip fun z=>hh ((YM x (es.getD i (0,0))).mpr z)⟩
   ·subst e
    rw[Int.toNat_natCast]at hO
    have NG:=N.same sG
    have haG:=sG _ _ ha
    refine⟨_,rfl,_,rfl,p,_,_,_,rfl,rfl,SqT.of NG.e1,rfl,qa,_,rfl,SqT.of NG.e2,by omega,fun i ys σ G'=>Same G G'/\ys=List.replicate i V.non/\∃v0,σ=[v0],⟨Same.refl G,rfl,none,rfl⟩,fun i ys σ G' hi⟨sG',e,_⟩=>⟨SqT.of (sG' _ _ NG.e2),by rw[e,List.length_replicate];exact Nat.le_refl _⟩,fun i z ys σ G' hz⟨sG',e,v0,eσ⟩=>?_,fun ys σ G'⟨sG',e,_⟩ lt G2 s2 hlt2=>?_⟩
    ·subst eσ e
     exact⟨sG',by rw[List.replicate_succ'],_,rfl⟩
    ·subst e
     have sH2:Same H G2:=Same.trans sG (Same.trans sG' s2)
     have sG2:Same G G2:=Same.trans sG' s2
     have ek:(k:Int)-1=((k-1:Nat):Int):=by omega
     refine⟨_,rfl,_,_,rfl,rfl,_,rfl,_,rfl,a,_,_,_,rfl,rfl,SqT.of (sH2 _ _ ha),rfl,es.length,h40,p,lt,d,n,qa,ts,es,x,k-1,List.replicate es.length none,kvs,y,(by show[V.ref p,.ref lt,.int ((k:Int)-1),.ref d,y]=_;rw[ek]),⟨N.same sH2,?_,List.length_replicate ..,sG2 _ _ hdG,hO.own,by omega⟩,hy.keep (Same.keepT sH2),fun G6 s6=>q G6 (Same.trans sH2 s6)⟩
     rw[hlt2,ZhJ,<-hlen]
end
end My
set_option maxHeartbeats 1000000
namespace My
open PySem L2 Cs
theorem Zdd{K:PySem.W.Frag}{es:List (Nat×Nat)}{bs:List (List Nat)}{m:Nat}{H:Hp}:∀{n:Nat}{tl:Tl}{v v':V},CaseAt es bs m H n tl v->CaseAt es bs m H n tl v'->Sam K H (3*n+1) v v'
 |0,_,_,_,h,_=>h.elim
 |n+1,tl,v,v',h,h'=>by
  obtain⟨t,ls,a,h1,rfl,h3⟩:=h
  obtain⟨t',ls',a',h1',rfl,h3'⟩:=h'
  rw[h1]at h1'
  cases h1'
  show Sam K H (3*n+3+1) (.ref a) (.ref a')
  rcases h3 with⟨e,h3⟩|⟨e,b,vs,h3,h4,h5,h6⟩
  ·rcases h3' with⟨_,h3'⟩|⟨e',_⟩
   ·refine Sam.tup h3 h3' rfl fun i u w hu hw=>?_
    match i,hu,hw with
    |0,hu,hw=>cases hu;cases hw;exact Sam.atom trivial
    |1,hu,hw=>cases hu;cases hw;exact Sam.atom trivial
   ·exact absurd e e'
  ·rcases h3' with⟨e',_⟩|⟨_,b',vs',h3',h4',h5',h6'⟩
   ·exact absurd e' e
   ·refine Sam.tup h3 h3' rfl fun i u w hu hw=>?_
    match i,hu,hw with
    |0,hu,hw=>cases hu;cases hw;exact Sam.atom trivial
    |1,hu,hw=>cases hu;cases hw;exact Sam.atom trivial
    |2,hu,hw=>
     cases hu;cases hw
     refine Sam.tup h4 h4' (by omega) fun i u w hu hw=>?_
     have hi:=(List.getElem?_eq_some_iff.mp hu).1
     obtain⟨x,hx⟩:∃x,ls[i]?=some x:=⟨_,List.getElem?_eq_getElem (by omega)⟩
     obtain⟨c,y,g1,g2,g3⟩:=h6 i x hx
     obtain⟨c',y',g1',g2',g3'⟩:=h6' i x hx
     rw[hu]at g1
     cases g1
     rw[hw]at g1'
     cases g1'
     refine Sam.tup g2 g2' rfl fun i u w hu hw=>?_
     match i,hu,hw with
     |0,hu,hw=>cases hu;cases hw;exact Sam.atom trivial
     |1,hu,hw=>cases hu;cases hw;exact Zdd g3 g3'
theorem Zcc{r:Tl}{i:Nat}{u w:V}(hu:(tv r)[i]?=some u)(hw:(tv r)[i]?=some w):u=w/\Atom u:=by
 rw[hu]at hw
 cases hw
 obtain⟨o,_,rfl⟩:=ZhK hu
 cases o<;>exact⟨rfl,trivial⟩
theorem ZdR{K:PySem.W.Frag}{es:List (Nat×Nat)}{bs:List (List Nat)}{m n:Nat}{tl:Tl}{H:Hp}{v v':V}(h:ResAt es bs m H n tl v)(h':ResAt es bs m H n tl v'):Sam K H (3*n+2) v v':=by
 cases e:(go es bs m n tl).1 with
 |none=>
  obtain⟨a,y,rfl,ha,hy⟩:=h.case e
  obtain⟨a',y',rfl,ha',hy'⟩:=h'.case e
  refine Sam.tup ha ha' rfl fun i u w hu hw=>?_
  match i,hu,hw with
  |0,hu,hw=>cases hu;cases hw;exact Sam.atom trivial
  |1,hu,hw=>cases hu;cases hw;exact Zdd hy hy'
 |some r=>
  obtain⟨a,b,rfl,ha,hb⟩:=h.full e
  obtain⟨a',b',rfl,ha',hb'⟩:=h'.full e
  refine Sam.tup ha ha' rfl fun i u w hu hw=>?_
  match i,hu,hw with
  |0,hu,hw=>cases hu;cases hw;exact Sam.atom trivial
  |1,hu,hw=>
   cases hu;cases hw
   refine Sam.tup hb hb' rfl fun i u w hu hw=>?_
   obtain⟨e1,e2⟩:=Zcc hu hw
   subst e1
   exact Sam.atom e2
theorem ZcS(es:List (Nat×Nat))(bs:List (List Nat))(m:Nat):Good es bs m (List.replicate es.length none):=by
 refine⟨List.length_replicate ..,fun k x e=>?_,fun i j x _ e=>?_⟩
 ·rw[List.getElem?_replicate]at e
  split at e<;>cases e
 ·rw[List.getElem?_replicate]at e
  split at e<;>cases e
end My
set_option maxHeartbeats 2000000
namespace My
open PySem L2 Cs
section
variable{P:Program}{w:World}{K:PySem.W.Frag}{mg:Str->Option Value}{base:Heap}{Pt:Addr}
abbrev sBy:Stmt:=top 37
abbrev nBy:List Str:=["_law_net_here","_law_found","_law_other","_law_less","_law_refused","_law_many","_law_told_case"]
abbrev pBy:List Str:=["_law_net_here","_law_found","_law_other","_law_less"]
theorem scBy:Zx nBy pBy (Zd sBy):=⟨rfl,rfl,rfl,by decide+kernel,rfl,by decide+kernel,by decide+kernel⟩
def Zg7(Pt:Addr):Sp:=fun vs H Q _=>∃(p:Addr)(n:Nat)(q:Addr)(ts:List V)(es:List (Nat×Nat))(M:Int)(x N k less:Nat)(o:Option (List Nat))(r:Tl)(u tb:Addr)(ppv ov:V),vs=[.ref p,.ref u,ov,.int (less:Int)]/\NetZ H p n q ts es/\n<=9/\es.length<=40/\IsMax (dl es n) M/\0<M/\(ZP es M n)[0]?=some x/\YO es n M (parts n).length=((N:Int),o)/\
 N<=k/\k<=900/\H u=some (.tup [.int (k:Int),.ref tb,ppv])/\H tb=some (.tup (tv r))/\(N<k->Zc3 es (ZW es x (k-1)) (k-1) H ppv)/\Cas es x 300 N k/\nm es x k<=300/\gx es x k=some r/\Y8 Pt H/\
 (((∃i,ov= .int i)/\∃j,N<=j/\j<=k/\less<nm es x j)\/((∃c xs,ov= .ref c/\H c=some (.tup xs))/\∀j,N<=j->j<=k->nm es x j<=less))/\∀H',GrL Pt H H'->Q (.bl true) H'
theorem ZjH{f:Addr}{fd:FuncData}(F:Fun K "_law_by_searches" "_law_by_searches" sBy f fd)(T:Bi mg)(FW:FnE P w K mg base "_law_whole" ["_law_found"] 1 (ZaT K))(FB:FnE P w K mg base "bound" ["net"] 5 spBd)
  (FS:FnE P w K mg base "_law_search" ["_law_net_here","_law_many","_law_at_most"] 47 (ZhV Pt)):FnOk P w K mg base CX0 48 f fd pBy (Zg7 Pt):=by
 refine F.ok (k:=47) scBy (fun vs H Q E h=>?_) (fun cdv A outer s H vs Q E hr h=>?_)
 ·obtain⟨p,n,q,ts,es,M,x,N,k,less,o,r,u,tb,ppv,ov,rfl,_⟩:=h
  rfl
 ·obtain⟨p,n,qa,ts,es,M,x,NN,k,less,o,r,u,tb,ppv,ov,rfl,N,n9,h40,hM,hM0,hx,hbo,hNk,h900,hu,htb,hpv,hcas,hnk,hgx,hT,hov,q⟩:=h
  have hr1:Room 1 _:=hr.mono (by omega)
  have hr5:Room 5 _:=hr.mono (by omega)
  obtain⟨tE,hTE,rE⟩:∃t,PSs (ZF CX0 P w K mg base nBy "_law_by_searches" (Zd sBy) f cdv A outer s H E).nox ((Zhj (Jl 37 1)).drop 4) t/\
    ∀(D:Ends)(G:Hp)(j:Nat)(b:Bool)(v6:Option V),GrL Pt H G->NN<=j->j<=k->(∀(G':Hp)(b':Bool),GrL Pt H G'->(b'=true↔(b=true\/less<nm es x j))->D.nx [some (.ref p),some (.ref u),some ov,some (.int (less:Int)),some (.bl b'),some (.int (j:Int)),v6] G')->
     t D [some (.ref p),some (.ref u),some ov,some (.int (less:Int)),some (.bl b),some (.int (j:Int)),v6] G:=by
   refine⟨_,Zh (Zm (i:=4) scBy.nd rfl (Or.inl rfl) (Zjr (pv 4) (JI (Z0 FW hr1 (Ze (Z0 FS hr (Ze (pv 0) (Ze (pv 5) (Ze (pv 3) Za)))) Za))))),fun D G j b v6 g hj1 hj2 fin=>?_⟩
   refine⟨_,rfl,_,rfl,?_⟩
   cases b with
   |true=>exact Yr (fin G true g ⟨fun _=> .inl rfl,fun _=>rfl⟩)
   |false=>
    refine Zy ?_
    have kt:=GrL.keepT g hT
    refine⟨_,rfl,_,rfl,_,rfl,p,n,qa,ts,es,M,x,j,less,rfl,NetZ.keepT N kt,h40,by omega,hM,hx,g.tab,fun hle G1 v g1 R1=>?_,fun hgt G1 g1=>?_⟩
    ·obtain⟨a,xs,rfl,ha⟩:∃a xs,v= .ref a/\G1 a=some (.tup xs):=by
      cases hgj:gx es x j with
      |none=>
       obtain⟨a,y,e1,e2,_⟩:=R1.case hgj
       exact⟨a,_,e1,e2⟩
      |some rt=>
       obtain⟨a,b,e1,e2,_⟩:=R1.full hgj
       exact⟨a,_,e1,e2⟩
     exact⟨_,rfl,.inr ⟨_,.tup ha,kit K "tuple" "int" false (by decide+kernel),fin G1 false (g.trans g1) ⟨(fun z=>nomatch z),fun z=>by rcases z with z|z;cases z;omega⟩⟩⟩
    ·exact⟨_,rfl,.inl ⟨_,rfl,fin G1 true (g.trans g1) ⟨fun _=> .inr hgt,fun _=>rfl⟩⟩⟩
  refine⟨_,Zb (Zm (i:=4) scBy.nd rfl (Or.inl rfl) ZcF)
   (Zb (ZZ PassesOwn.never rfl (ZeA rfl T.range (Ze (Zo Zl (Z0 FB hr5 (Ze (pv 0) Za)) Zc (fun _ _=>rfl)) (Ze (Zq ZE (Zo Zl (pv 1) Zc (fun _ _=>rfl)) Zc) Za))) (Zt (i:=5) scBy.nd rfl (Or.inl rfl))
    (Zb (Zm (i:=6) scBy.nd rfl (Or.inl rfl) (Z0 FS hr (Ze (pv 0) (Ze (pv 5) (Ze Zc Za)))))
    (Zb (Z3 (PW.pt (pw_and (Zi Zbc (pv 5) (Zo Zl (pv 1) Zc (fun _ _=>rfl)) (Zp _)) (pw_and1 (PW.pt (pw_or (ZY (ZS (Zn ZL rfl T.isi Za3 (Ze (pv 6) (Ze (Yy (v:= .ty "tuple") rfl T.tuple Yh rfl) Za))))) (pw_or1 (Zi YI (Zo Zl (pv 6) Zc (fun _ _=>rfl)) Yi (Zp _)))))))) Zw Zr)
    (Zb (Z3 (PW.pt (pw_and (Zi ZR (pv 5) (Zq Jd (Zo Zl (pv 1) Zc (fun _ _=>rfl)) Zc) (Zp _)) (pw_and1 (Zi (Zcn hr) (pv 6) (Zo Zl (pv 1) Zc (fun _ _=>rfl)) (Zp _))))) Zw Zr)
    (Zb (Z3 (PW.pt (pw_and (Zi ZR (pv 5) (Zo Zl (pv 1) Zc (fun _ _=>rfl)) (Zp _)) (pw_and1 (Zi (Zcn hr) (pv 6) (Zu (Ze Yi (Ze (Zo Zl (pv 1) Zc (fun _ _=>rfl)) Za))) (Zp _))))) Zw Zr)
    hTE)))))
   (Zh (Z2 (Ym ZR (Z0 FW hr1 (Ze (pv 2) Za)) (pv 4) (Zp _))))),?_⟩
  refine⟨_,rfl,p,n,qa,ts,es,rfl,N,n9,fun H1 t1 s1 hB=>?_⟩
  obtain⟨bv,ht1⟩:=hB.fst hM hM0 hbo
  refine⟨t1,_,_,_,rfl,rfl,SqT.of ht1,rfl,_,rfl,u,_,_,_,rfl,rfl,SqT.of (s1 _ _ hu),rfl,_,_,rfl,rfl,(NN:Int),(k:Int)+1,rfl,⟨by omega,by omega,by omega,by omega⟩,?_⟩
  refine ZT (lo:=(NN:Int)) (n:=((k:Int)+1-(NN:Int)).toNat) (fun i σ G=>∃(b:Bool)(v5 v6:Option V),σ=[some (.ref p),some (.ref u),some ov,some (.int (less:Int)),some (.bl b),v5,v6]/\GrL Pt H G/\(b=true↔∃j,NN<=j/\j<NN+i/\less<nm es x j))
   ⟨false,_,_,rfl,(Gr.refl hT).same s1,⟨(fun z=>nomatch z),fun⟨j,h1,h2,_⟩=>by omega⟩⟩ (fun i σ G hi⟨b,v5,v6,e,g,hb⟩=>?_) (fun σ G⟨b,v5,v6,e,g,hb⟩=>?_)
  ·subst e
   rw[<-Int.natCast_add]
   have hik:NN+i<=k:=by
    clear hb hov
    omega
   have kt:=GrL.keepT g hT
   have NG:=NetZ.keepT N kt
   have hle:nm es x (NN+i)<=300:=by
    by_cases z:NN+i=k
    ·rw[z];exact hnk
    ·exact(hcas _ (by omega) (by omega)).1
   refine⟨_,rfl,_,rfl,p,n,qa,ts,es,M,x,NN+i,300,rfl,NG,h40,by omega,hM,hx,g.tab,fun _ G1 v g1 R1=>?_,fun z=>absurd z (by omega)⟩
   have g01:=g.trans g1
   have kt1:=GrL.keepT g01 hT
   have hu1:=kt1 _ _ hu
   have fin:∀(D:Ends)(G2:Hp)(a:Addr),(D.nx=fun σ G=>∃(b:Bool)(v5 v6:Option V),σ=[some (.ref p),some (.ref u),some ov,some (.int (less:Int)),some (.bl b),v5,v6]/\GrL Pt H G/\(b=true↔∃j,NN<=j/\j<NN+(i+1)/\less<nm es x j))->Same G1 G2->tE D [some (.ref p),some (.ref u),some ov,some (.int (less:Int)),some (.bl b),some (.int ((NN+i:Nat):Int)),some (.ref a)] G2:=fun D G2 a hD s2=>by
    refine rE D G2 (NN+i) b _ (g01.same s2) (by omega) hik fun G' b' g' hb'=>?_
    rw[hD]
    refine⟨b',_,_,rfl,g',?_⟩
    rw[hb',hb]
    constructor
    ·rintro(⟨j,h1,h2,h3⟩|h)
     ·exact⟨j,h1,by omega,h3⟩
     ·exact⟨NN+i,by omega,by omega,h⟩
    ·rintro⟨j,h1,h2,h3⟩
     by_cases z:j=NN+i
     ·subst z;exact .inr h3
     ·exact .inl ⟨j,h1,by omega,h3⟩
   by_cases hk:NN+i=k
   ·have hgk:gx es x (NN+i)=some r:=by rw[hk];exact hgx
    obtain⟨a,b2,rfl,ha,hb2⟩:=R1.full hgk
    refine⟨_,rfl,_,rfl,u,_,_,_,rfl,rfl,SqT.of hu1,rfl,_,_,rfl,rfl,_,rfl,?_⟩
    refine ZQ (fun z=>absurd (of_decide_eq_true z) (by omega)) (fun _=>?_)
    refine Zy ⟨_,rfl,_,rfl,u,_,_,_,rfl,rfl,SqT.of hu1,rfl,_,_,rfl,rfl,rfl,_,rfl,?_⟩
    refine ZQ (fun z=>absurd (V.int.inj (of_decide_eq_true z)) (by omega)) (fun _=>?_)
    refine Zy ⟨_,rfl,_,rfl,u,_,_,_,rfl,rfl,SqT.of hu1,rfl,rfl,_,rfl,?_⟩
    refine ZQ (fun _=>?_) (fun z=>absurd (decide_eq_true (by rw[hk])) z)
    refine⟨_,rfl,_,rfl,u,_,_,_,rfl,rfl,SqT.of hu1,rfl,rfl,fun c G2 s2 hc=>?_⟩
    have hst:Sam K G2 2 (.ref a) (.ref c):=by
     refine Sam.tup (s2 _ _ ha) hc rfl fun i y z hu' hw=>?_
     match i,hu',hw with
     |0,hu',hw=>cases hu';cases hw;exact Sam.atom trivial
     |1,hu',hw=>
      cases hu';cases hw
      refine Sam.tup (s2 _ _ hb2) (s2 _ _ (kt1 _ _ htb)) rfl fun i y z hu' hw=>?_
      obtain⟨e1,e2⟩:=Zcc hu' hw
      subst e1
      exact Sam.atom e2
    refine⟨a,c,2,rfl,rfl,by decide,hst,_,rfl,Zy ?_⟩
    exact fin _ G2 a rfl s2
   ·have hlt:NN+i<k:=by omega
    have hgn:=(hcas (NN+i) (by omega) hlt).2
    obtain⟨a,y,rfl,ha,hy⟩:=R1.case hgn
    refine⟨_,rfl,_,rfl,u,_,_,_,rfl,rfl,SqT.of hu1,rfl,_,_,rfl,rfl,_,rfl,?_⟩
    refine ZQ (fun _=>?_) (fun z=>absurd (decide_eq_true (by omega)) z)
    refine⟨_,rfl,_,_,_,_,rfl,.tup ha,kit K "tuple" "tuple" true (by decide+kernel),_,rfl,Zy ?_⟩
    refine⟨_,rfl,a,_,_,_,rfl,rfl,SqT.of ha,rfl,rfl,_,rfl,Zy ?_⟩
    refine⟨_,rfl,_,rfl,u,_,_,_,rfl,rfl,SqT.of hu1,rfl,_,_,rfl,rfl,rfl,_,rfl,?_⟩
    refine ZQ (fun z=>?_) (fun _=>?_)
    ·have ek:NN+i=k-1:=by have:=V.int.inj (of_decide_eq_true z);omega
     have hR2:=hpv (by omega)
     rw[ek]at R1
     have hR3:=ResAt.keep hR2 kt1
     obtain⟨a3,y3,hp3,ha3,hy3⟩:=hR3.case (by rw[<-ek];exact hgn)
     refine⟨_,rfl,_,rfl,u,_,_,_,rfl,rfl,SqT.of hu1,rfl,?_⟩
     refine⟨a,a3,3*es.length+2,rfl,hp3,by omega,ZdR R1 hR3,_,rfl,Zy ?_⟩
     refine⟨_,rfl,_,rfl,u,_,_,_,rfl,rfl,SqT.of hu1,rfl,rfl,_,rfl,?_⟩
     refine ZQ (fun z=>absurd (V.int.inj (of_decide_eq_true z)) (by omega)) (fun _=>?_)
     exact Zy (fin _ G1 a rfl (Same.refl _))
    ·refine Zy ⟨_,rfl,_,rfl,u,_,_,_,rfl,rfl,SqT.of hu1,rfl,rfl,_,rfl,?_⟩
     refine ZQ (fun z=>absurd (V.int.inj (of_decide_eq_true z)) (by omega)) (fun _=>?_)
     exact Zy (fin _ G1 a rfl (Same.refl _))
  ·subst e
   have hbk:b=true↔∃j,NN<=j/\j<=k/\less<nm es x j:=by
    rw[hb]
    exact⟨fun⟨j,h1,h2,h3⟩=>⟨j,h1,by omega,h3⟩,fun⟨j,h1,h2,h3⟩=>⟨j,h1,by omega,h3⟩⟩
   rcases hov with⟨⟨i,rfl⟩,hex⟩|⟨⟨c,xs,rfl,hc⟩,hall⟩
   ·cases(hbk.mpr hex)
    exact⟨_,rfl,_,rfl,.inl ⟨i,rfl,_,rfl,rfl,q G g⟩⟩
   ·have hbf:b=false:=by
     cases b with
     |false=>rfl
     |true=>
      obtain⟨j,h1,h2,h3⟩:=hbk.mp rfl
      have:=hall j h1 h2
      omega
    subst hbf
    exact⟨_,rfl,_,rfl,.inr ⟨_,.tup (GrL.keepT g hT _ _ hc),kit K "tuple" "int" false (by decide+kernel),_,rfl,rfl,q G g⟩⟩
end
end My
set_option maxHeartbeats 2000000
namespace My
open PySem L2 Cs
theorem Jv:∀l:List Int,∃M,IsMax l M
 |[]=>⟨0,.inl ⟨rfl,rfl⟩⟩
 |a::l=>by
  obtain⟨M,h⟩:=Jv l
  rcases h with⟨rfl,_⟩|⟨h1,h2⟩
  ·exact⟨a,.inr ⟨.head _,fun b hb=>by rw[List.mem_singleton.mp hb];exact Int.le_refl _⟩⟩
  ·by_cases z:a<=M
   ·exact⟨M,.inr ⟨.tail _ h1,fun b hb=>by rcases List.mem_cons.mp hb with rfl|hb;exact z;exact h2 b hb⟩⟩
   ·exact⟨a,.inr ⟨.head _,fun b hb=>by
     rcases List.mem_cons.mp hb with rfl|hb
     ·exact Int.le_refl _
     ·have:=h2 b hb;omega⟩⟩
theorem Zcq{es:List (Nat×Nat)}{n:Nat}{M:Int}(ok:∀e∈es,e.1<n/\e.2<n/\e.1≠e.2) (h:IsMax (dl es n) M) (he:0<es.length):0<M:=by
 cases es with
 |nil=>exact absurd he (Nat.lt_irrefl _)
 |cons e r=>
  obtain⟨h1,_,_⟩:=ok e (.head _)
  have:=ZgS h h1
  have hd:0<dg (e::r) (e::r).length e.1:=by
   unfold dg
   refine List.length_pos_of_mem (a:=0) (List.mem_filter.mpr ⟨List.mem_range.mpr (Nat.succ_pos _),?_⟩)
   exact atB_iff.mpr (Or.inl rfl)
  omega
theorem Zgm{g:Tl->Option Tl×Nat}(hg:∀tl,1<=(g tl).2) {tl:Tl} {t:Nat} {r:Tl}:∀(xs:List Nat)(c:Nat),(br g tl t xs c).1=some r->c+1<=(br g tl t xs c).2
 |[],c,h=>by cases h
 |x::xs,c,h=>by
  have h1:=hg (tl.set t (some x))
  unfold br at h⊢
  split at h
  ·next r' k e=>
   rw[e]at h1
   exact Nat.add_le_add_left h1 c
  ·next k e=>
   rw[e]at h1
   have h2:=Zgm hg xs (c+k) h
   have h3:1<=k:=h1
   omega
theorem Zix{es:List (Nat×Nat)}{x k:Nat}{r:Tl}(he:0<es.length)(h:gx es x k=some r):2<=nm es x k:=by
 obtain⟨l,hl⟩:∃l,es.length=l+1:=⟨es.length-1,by omega⟩
 unfold nm num
 unfold gx at h
 cases hq:best (lfs es (ZW es x k) k (List.replicate es.length none))with
 |none=>
  have h1:bare (List.replicate es.length none)=[]:=List.map_eq_nil_iff.mp (best_none.mp hq)
  rw[Jz]at h1
  have:=congrArg List.length h1
  rw[List.length_range]at this
  simp only[List.length_nil]at this
  omega
 |some q=>
  obtain⟨t,ls⟩:=q
  have e:=Zab (n:=l) hq
  have e2:go es (ZW es x k) k es.length (List.replicate es.length none)=br (go es (ZW es x k) k l) (List.replicate es.length none) t ls 1:=by
   rw[<-e,<-hl]
  rw[e2]at h⊢
  exact Zgm (fun tl=>go_pos) ls 1 h
theorem ZiK{ts:List V}(h:40<=ts.length):(Ys ts none (some 40)).length=40:=by
 unfold Ys
 rw[show(40:Int)=((40:Nat):Int)from rfl,HT.sIx_nat,HT.sIx_none]
 simp only[List.length_take,List.length_drop]
 omega
theorem Zgk{ts:List V}{lo hi:Option Int}{t:V}(h:t∈Ys ts lo hi):t∈ts:=by
 unfold Ys at h
 exact List.mem_of_mem_drop (List.mem_of_mem_take h)
section
variable{P:Program}{w:World}{K:PySem.W.Frag}{mg:Str->Option Value}{base:Heap}{cT Pt:Addr}
theorem Zfh{H:Hp}{Q:VK}{E:XK}{u:Addr}{n:Int}{v:V}{mo:Nat}(h:H u=some (.tup [.int n,v]))(h9:9<n)(q:∀H',Same H H'->Q (.int 9) H'):Zcf cT Pt [.ref u,.int (mo:Int)] H Q E:=
 ⟨u,mo,rfl,.inr ⟨u,n,v,mo,rfl,h,h9,fun H' dx s hdx=>⟨dx,9,rfl,rfl,Zf,fun G' s'=>q G' (Same.trans s (Same.trans (Zs hdx) s'))⟩⟩⟩
theorem Zgv{H:Hp}{Q:VK}{E:XK}{u qa:Addr}{n:Nat}{ts:List V}{es:List (Nat×Nat)}{mo:Nat}(N:NetZ H u n qa ts es)(h9:n<=9)(h40:40<es.length)(hT:Y8 Pt H)(q:∀H',Same H H'->Q (.int 40) H'):Zcf cT Pt [.ref u,.int (mo:Int)] H Q E:=by
 obtain⟨M,hM⟩:=Jv (dl es n)
 have hp:=Zcq N.ok hM (by omega)
 refine⟨u,mo,rfl,.inl ⟨u,n,qa,ts,es,mo,M,rfl,N,h9,hM,hT,fun z=>absurd z (by omega),fun _ x NN o hx hb=>⟨fun _ H' dx s hdx=>⟨dx,40,rfl,rfl,Zf,fun G' s'=>q G' (Same.trans s (Same.trans (Zs hdx) s'))⟩,fun z=>absurd z (by omega)⟩⟩⟩
theorem ZhN{H:Hp}{Q:VK}{E:XK}{u qa:Addr}{n:Nat}{ts:List V}{es:List (Nat×Nat)}(N:NetZ H u n qa ts es)(h9:n<=9)(h40:es.length<=40)(h0:0<es.length)(hT:Y8 Pt H)(q:∀H',GrL Pt H H'->Q (.int 1) H'):Zcf cT Pt [.ref u,.int ((1:Nat):Int)] H Q E:=by
 obtain⟨M,hM⟩:=Jv (dl es n)
 have hp:=Zcq N.ok hM h0
 refine⟨u,1,rfl,.inl ⟨u,n,qa,ts,es,1,M,rfl,N,h9,hM,hT,fun z=>absurd z (by omega),fun _ x NN o hx hb=>⟨fun z=>absurd z (by omega),fun _=>⟨fun k r _ _ hn hg=>absurd (Zix h0 hg) (by omega),fun k _ _ _ H' dx g hdx=>⟨dx,1,rfl,rfl,Zf,fun G' s'=>q G' ((g.new hdx).same s')⟩⟩⟩⟩⟩
theorem Zdm{H:Hp}{Q:VK}{E:XK}{u qa:Addr}{n:Nat}{ts:List V}{es:List (Nat×Nat)}{mo:Nat}(N:NetZ H u n qa ts es)(h9:n<=9)(h0:es.length=0)(hT:Y8 Pt H)(q:∀H' w t0,Same H H'->H' w=some (.tup [.int 0,.ref t0,.non])->H' t0=some (.tup [])->Q (.ref w) H'):Zcf cT Pt [.ref u,.int (mo:Int)] H Q E:=by
 obtain⟨M,hM⟩:=Jv (dl es n)
 have:=ZaJ hM
 exact⟨u,mo,rfl,.inl ⟨u,n,qa,ts,es,mo,M,rfl,N,h9,hM,hT,fun _ H' w t0 s h1 h2=>q H' w t0 s h1 h2,fun z=>absurd z (by omega)⟩⟩
abbrev sBk:Stmt:=top 39
abbrev nBk:List Str:=["_law_draws_here","_law_net_here","_law_more","_law_ties","_law_many","_law_one","_law_points"]
abbrev pBk:List Str:=["_law_draws_here","_law_net_here"]
def bkC:Stmt->Scope
 | .Assign _ (.Call _ (.ListComp _ _ s _::_) _ _) _=>s
 |_=>{kind:= .function,names:=[],isGenerator:=false,isCoroutine:=false}
abbrev bkS:Scope:=bkC (Jl 39 1)
theorem scBk:Zx nBk pBk (Zd sBk):=⟨rfl,rfl,rfl,by decide+kernel,rfl,by decide+kernel,by decide+kernel⟩
theorem Zlx:(["_law_k","_law_net_here"]:List Str).Nodup:=by decide+kernel
theorem Zk3{f:Addr}{cdv:Value}{A:Around}{outer:List Env}{s:Shared}{H:Hp}{E:XK}:
  Blk (ZF CX0 P w K mg base nBk "_law_bounds_kept" (Zd sBk) f cdv A outer s H E).nox bkS [("_law_net_here",s.heap.objs.size+1)] ["_law_k","_law_net_here"] [none,some 1]:=by
 refine⟨rfl,rfl,by decide+kernel,by decide+kernel,fun p hp=>?_,fun y hy e=>?_,⟨rfl,rfl,rfl⟩,trivial⟩
 ·rw[List.mem_singleton.mp hp]
  rfl
 ·have hy':y∈[((PySem.Str.ofString ".0":Str),NameKind.local),(PySem.Str.ofString "_law_k",.local),(PySem.Str.ofString "_law_net_here",.free)]:=hy
  simp only[List.mem_cons,List.not_mem_nil,or_false]at hy'
  rcases hy' with rfl|rfl|rfl<;>first|rfl|cases e
theorem ZgU:∀vs H(Q Q':VK) E,(∀v H',Q v H'->Q' v H')->Jn K vs H Q E->Jn K vs H Q' E:=fun vs H Q Q' E k⟨a,ns,j,e,h1,h2,h3,h4,q⟩=>⟨a,ns,j,e,h1,h2,h3,h4,k _ _ q⟩
def Zia(K:PySem.W.Frag)(Pt:Addr):Sp:=fun vs H Q _=>∃(a:Addr)(ns:List Int)(p:Addr)(n:Nat)(q:Addr)(ts:List V)(es:List (Nat×Nat)),vs=[.ref a,.ref p]/\SqL K H a (ns.map V.int)/\Dr ns/\NetZ H p n q ts es/\2<=n/\n<=9/\Y8 Pt H/\∀H',GrL Pt H H'->Q (.bl true) H'
theorem ZjK{f:Addr}{fd:FuncData}(F:Fun K "_law_bounds_kept" "_law_bounds_kept" sBk f fd)(T:Bi mg)(FD:FnE P w K mg base "_law_draw" ["_law_draws_here","_law_k"] 1 (Jn K))(FW:FnE P w K mg base "_law_whole" ["_law_found"] 1 (ZaT K))
  (FT:FnE P w K mg base "_law_told" ["_law_net_here","_law_at_most"] 48 (Zcf cT Pt)):FnOk P w K mg base CX0 49 f fd pBk (Zia K Pt):=by
 refine F.ok (k:=48) scBk (fun vs H Q E h=>?_) (fun cdv A outer s H vs Q E hr h=>?_)
 ·obtain⟨a,ns,p,n,q,ts,es,rfl,_⟩:=h
  rfl
 ·obtain⟨a,ns,p,n,qa,ts,es,rfl,hS,hD,N,n2,n9,hT,q⟩:=h
  have hr1:Room 1 _:=hr.mono (by omega)
  refine⟨_,Zb (Zm (i:=2) scBk.nd rfl (Or.inl rfl) (Zq ZE Zc (Zq ZC (Z0 FD hr1 (Ze (pv 0) (Ze Zc Za))) Zc)))
   (Zb (Zm (i:=3) scBk.nd rfl (Or.inl rfl) (Z9 ZA rfl T.tuple Yh (Ze (Zau Zk3 rfl rfl T.range (Ze (Zq ZE Zc (Zq ZC (Z0 FD hr1 (Ze (pv 0) (Ze Zc Za))) Zc)) Za)
     (ZN (ZfN (YB _) (ZgT (Zd8 ZgU (ZN (ZJ 0) (ZN (YB _) Yc))) (YB _))) Yc) rfl (fun C fp s H=>Zt (i:=0) Zlx rfl (Or.inl rfl) (hf:=Or.inr rfl)) (fun C fp s H=>YK)
     (fun C fp s H=>Zu (Ze (Zq ZC (pv 0) (Zo (Zei (K:=K) rfl) (pv 1) Zc (fun _ _=>rfl))) (Ze (Zq ZC (Zq ZE (pv 0) Zc) (Zo (Zei (K:=K) rfl) (pv 1) Zc (fun _ _=>rfl))) Za)))) Za)))
   (Zb (Zm (i:=4) scBk.nd rfl (Or.inl rfl) (Jc (Ze (Z0 FT hr (Ze (Zu (Ze (pv 2) (Ze (Zu Za) Za))) (Ze Zc Za))) (Ze (Z0 FT hr (Ze (Zu (Ze (Zo Zl (pv 1) Zc (fun _ _=>rfl)) (Ze (pv 3) Za))) (Ze Zc Za))) (Ze (Z0 FT hr (Ze (Zu (Ze (pv 2) (Ze (pv 3) Za))) (Ze Zc Za))) Za)))))
   (Zb (YD (Jo PySem.F.plainAttrs_list PySem.F.slot_list_append PySem.F.type_list_append Yu (pv 4) (Ze (Z0 FT hr (Ze (Zu (Ze (Zo Zl (pv 1) Zc (fun _ _=>rfl)) (Ze (Yx Zds (pv 3) YF (YE Zc)) Za))) (Ze Zc Za))) Za)))
   (Zb (ZZ PassesOwn.never rfl (ZaF (pv 4)) (Zt (i:=5) scBk.nd rfl (Or.inl rfl)) (Zh (Z3 (ZY (ZS (Z0 FW hr1 (Ze (pv 5) Za)))) Zw Zr)))
   (Zb (ZZ PassesOwn.never rfl (ZaF (Yb (Ze Zc (Ze Zc Za)))) (Zt (i:=6) scBk.nd rfl (Or.inl rfl)) (Zh (Z3 (Zi (Zcn hr) (Z0 FT hr (Ze (Zu (Ze (pv 6) (Ze (Zu Za) Za))) (Ze Zc Za))) (Zu (Ze Zc (Ze (Zu Za) (Ze Yj Za)))) (Zp _)) Zw Zr)))
   (Zh (Z2 (Ym (Ziq hr) (pv 4) (Yb (Ze Zc (Ze Zc (Ze Zc (Ze Zc Za))))) (Zp _))))))))),?_⟩
  have b0:=Ya (n:=draw ns 2) (p:=51) (by decide)
  have c0:=Ya (n:=draw ns 3) (p:=60) (by decide)
  have c1:=Yk (n:=draw ns 3) (p:=60) (by decide)
  obtain⟨m,hm⟩:∃m:Nat,41+draw ns 3%60=(m:Int):=⟨(41+draw ns 3%60).toNat,by omega⟩
  refine⟨_,rfl,a,ns,2,rfl,hS,hD,by decide,by decide,_,_,rfl,rfl,(by show(0:Int)<51;decide),_,_,rfl,rfl,?_⟩
  refine⟨_,rfl,a,ns,3,rfl,hS,hD,by decide,by decide,_,_,rfl,rfl,(by show(0:Int)<60;decide),_,_,rfl,rfl,m,congrArg (fun z=>[V.int z]) hm,by omega,fun i ys σ G=>Same H G/\ys.length=i/\Ties G (n:Int) ys/\∃v0,σ=[v0,some (.ref p)],⟨Same.refl H,rfl,(fun t ht=>nomatch ht),none,rfl⟩,fun i ys σ G hi⟨_,e,_⟩=>Nat.le_of_eq e,fun i ys σ G hi⟨sG,hl,hTi,v0,e⟩=>?_,fun ys σ G0⟨s0,hl0,hT0,_⟩ l G1 s1 hl1=>?_⟩
  ·subst e
   rw[Int.zero_add]
   have e1G:=sG _ _ N.e1
   have a1:=Ya (n:=(i:Int)) (p:=(n:Int)) (by omega)
   have a2:=Yk (n:=(i:Int)) (p:=(n:Int)) (by omega)
   have d1:=Ya (n:=(i:Int)+1) (p:=(n:Int)) (by omega)
   have d2:=Yk (n:=(i:Int)+1) (p:=(n:Int)) (by omega)
   have ne:=next_ne (n:=(i:Int)) (p:=(n:Int)) (by omega)
   refine⟨_,rfl,_,rfl,p,_,_,_,rfl,rfl,SqT.of e1G,rfl,_,_,rfl,rfl,(by show(0:Int)<n;omega),_,rfl,_,_,rfl,rfl,_,rfl,p,_,_,_,rfl,rfl,SqT.of e1G,rfl,_,_,rfl,rfl,(by show(0:Int)<n;omega),rfl,fun b G3 s3 hb=>⟨Same.trans sG s3,by rw[List.length_append,hl];rfl,fun u hu=>?_,_,rfl⟩⟩
   rcases List.mem_append.mp hu with z|z
   ·exact(hTi u z).same s3
   ·rw[List.mem_singleton.mp z]
    exact⟨b,_,_,rfl,hb,a1,a2,d1,d2,Ne.symm ne⟩
  ·refine⟨l,ys,rfl,.inl hl1,fun tq G2 s2 h2=>?_⟩
   have s02:Same H G2:=Same.trans s0 (Same.trans s1 s2)
   have hT2:Ties G2 (n:Int) ys:=hT0.same (Same.trans s1 s2)
   refine⟨_,rfl,rfl,fun t0 G3 s3 h3=>⟨rfl,fun u1 G4 s4 h4=>Zfh (E:=fun _ _ _=>False) (mo:=300) h4 (by show(9:Int)<10+draw ns 2%51;omega) fun G5 s5=>?_⟩⟩
   have s25:Same G2 G5:=Same.trans s3 (Same.trans s4 s5)
   have s05:=Same.trans s02 s25
   have N5:=N.same s05
   refine⟨_,rfl,p,_,_,_,rfl,rfl,SqT.of N5.e1,rfl,_,rfl,rfl,fun u2 G6 s6 h6=>?_⟩
   have s26:Same G2 G6:=Same.trans s25 s6
   obtain⟨es6,N6⟩:=ZaI (n:=(n:Int)) h6 (s26 _ _ h2) (by omega) (hT2.same s26) (by omega) (by omega) (Int.le_refl _)
   have hl6:es6.length=m:=by have:=N6.len;omega
   refine Zgv (E:=fun _ _ _=>False) (mo:=300) N6 (by omega) (by omega) (hT.same (Same.trans s02 s26)) fun G7 s7=>?_
   have s27:Same G2 G7:=Same.trans s26 s7
   refine⟨_,rfl,_,rfl,rfl,fun u3 G8 s8 h8=>Zfh (E:=fun _ _ _=>False) (mo:=7) h8 (by show(9:Int)<10+draw ns 2%51;omega) fun G9 s9=>⟨(by show 3<=sizeLine;exact Nat.le_trans (by decide:3<=1000) (Yq (by decide))),fun B hB=>?_⟩⟩
   have s29:Same G2 G9:=Same.trans s27 (Same.trans s8 s9)
   have sB:Same G9 (upd G9 B (.lst [.int 9,.int 40,.int 9])):=Zs hB
   have s0B:=Same.trans (Same.trans s02 s29) sB
   have hB0:H B=none:=Same.none (Same.trans s02 s29) hB
   have NB:=N.same s0B
   have htB:=sB _ _ (s29 _ _ h2)
   refine⟨_,rfl,.inl ⟨rfl,_,SqL.of Zf⟩,_,rfl,p,_,_,_,rfl,rfl,SqT.of NB.e1,rfl,_,rfl,_,rfl,tq,ys,rfl,SqT.of htB,?_,fun tc htc=>⟨rfl,fun u4 Ga sa ha=>?_⟩⟩
   ·intro z
    have:=z.2
    rw[show(40:Int)=((40:Nat):Int)from rfl,HT.sIx_nat]at this
    omega
   have sc:=Zs (o:=HO.tup (Ys ys none (some 40))) htc
   have sBa:Same (upd G9 B (.lst [.int 9,.int 40,.int 9])) Ga:=Same.trans sc sa
   have hla:=ZiK (ts:=ys) (by omega)
   obtain⟨esa,Na⟩:=ZaI (n:=(n:Int)) ha (sa _ _ Zf) (by omega) (fun t ht=>(hT2 t (Zgk ht)).same (Same.trans s29 (Same.trans sB sBa))) (by omega) (by omega) (Int.le_refl _)
   have hle:esa.length=40:=by have:=Na.len;omega
   have s0a:=Same.trans s0B sBa
   have hTa:Y8 Pt Ga:=hT.same s0a
   refine ZhN (E:=fun _ _ _=>False) Na (by omega) (by omega) (by omega) hTa fun Gb gb=>?_
   have hBa:Ga B=some (.lst [.int 9,.int 40,.int 9]):=sBa _ _ Zf
   have notT:∀{G:Hp}{b:Addr}{xs:List V},Y8 Pt G->G b=some (.lst xs)->b≠Pt:=fun{G b xs} t e z=>by
    obtain⟨ps,h⟩:=TabI.tbl t (show G Pt=some _ by rw[<-z];exact e)
    cases h
   have hBb:Gb B=some (.lst [.int 9,.int 40,.int 9]):=gb.keep _ _ hBa (notT hTa hBa)
   have g0b:GrL Pt H Gb:=⟨fun b o e hb=>gb.keep b o (s0a _ _ e) hb,gb.tab⟩
   refine⟨B,_,_,rfl,rfl,hBb,Nat.lt_of_lt_of_le (show 3<1000 by decide) (Yq (by decide)),?_⟩
   have g1:GrL Pt H (upd Gb B (.lst [.int 9,.int 40,.int 9,.int 1])):=g0b.lst hBb hB0
   refine⟨_,rfl,B,rfl,⟨_,SqL.of Zf⟩,?_⟩
   refine Zbr (K:=K) (a:=B) (xs:=[.int 9,.int 40,.int 9,.int 1]) (fun i σ G=>G=upd Gb B (.lst [.int 9,.int 40,.int 9,.int 1])/\∃v5,σ=[some (.ref a),some (.ref p),some (.int (10+draw ns 2%51)),some (.ref tq),some (.ref B),v5,none])
    ⟨rfl,_,rfl⟩ (fun i σ G hi⟨e,_⟩=>by rw[e];exact SqL.of Zf) (fun i x σ G hx⟨e1,v5,e2⟩=>?_) (fun σ G⟨e1,v5,e2⟩=>?_)
   ·subst e1 e2
    obtain⟨j,rfl⟩:∃j,x= .int j:=by
     match i,hx with
     |0,hx=>cases hx;exact⟨_,rfl⟩
     |1,hx=>cases hx;exact⟨_,rfl⟩
     |2,hx=>cases hx;exact⟨_,rfl⟩
     |3,hx=>cases hx;exact⟨_,rfl⟩
    exact⟨_,rfl,_,rfl,.inl ⟨j,rfl,_,rfl,Zy ⟨rfl,_,rfl⟩⟩⟩
   ·subst e1 e2
    refine⟨rfl,fun L0 Gc sc2 hL0=>⟨L0,rfl,⟨_,SqL.of hL0⟩,?_⟩⟩
    have g2:GrL Pt H Gc:=g1.same sc2
    have hBc:Gc B=some (.lst [.int 9,.int 40,.int 9,.int 1]):=sc2 _ _ Zf
    refine Zbr (K:=K) (a:=L0) (xs:=[.int 0,.int 1]) (fun i σ G=>Same Gc G/\∃v6,σ=[some (.ref a),some (.ref p),some (.int (10+draw ns 2%51)),some (.ref tq),some (.ref B),v5,v6])
     ⟨Same.refl _,_,rfl⟩ (fun i σ G hi⟨e,_⟩=>SqL.of (e _ _ hL0)) (fun i x σ G hx⟨e1,v6,e2⟩=>?_) (fun σ G⟨e1,v6,e2⟩=>?_)
    ·subst e2
     obtain⟨j,rfl,hj⟩:∃j:Nat,x= .int (j:Int)/\j<=1:=by
      match i,hx with
      |0,hx=>cases hx;exact⟨0,rfl,by decide⟩
      |1,hx=>cases hx;exact⟨1,rfl,by decide⟩
     refine⟨_,rfl,rfl,fun t5 Gd sd hd=>⟨rfl,fun u5 Ge se he=>?_⟩⟩
     obtain⟨ese,Ne⟩:=ZaI (n:=(j:Int)) he (se _ _ hd) (by show 0<=200;decide) (fun t ht=>nomatch ht) (by omega) (by omega) (Int.le_refl _)
     have hl0:ese.length=0:=by have:=Ne.len;rw[<-this];rfl
     have sce:Same Gc Ge:=Same.trans e1 (Same.trans sd se)
     refine Zdm (E:=fun _ _ _=>False) (mo:=300) Ne (by omega) hl0 (g2.tab.same sce) fun Gf wf tf sf hwf htf=>?_
     refine⟨rfl,fun t6 Gg sg hg=>⟨rfl,fun u6 Gh sh hh=>?_⟩⟩
     refine⟨wf,u6,2,rfl,rfl,by decide,?_,_,rfl,Zy ⟨Same.trans sce (Same.trans sf (Same.trans sg sh)),_,rfl⟩⟩
     refine Sam.tup (sh _ _ (sg _ _ hwf)) hh rfl fun i u v hu hv=>?_
     match i,hu,hv with
     |0,hu,hv=>cases hu;cases hv;exact Sam.atom trivial
     |1,hu,hv=>cases hu;cases hv;exact Sam.tup (sh _ _ (sg _ _ htf)) (sh _ _ hg) rfl fun i u v hu hv=>by cases hu
     |2,hu,hv=>cases hu;cases hv;exact Sam.atom trivial
    ·subst e2
     refine⟨_,rfl,rfl,fun L1 Gi si hi=>⟨B,L1,1,rfl,rfl,by decide,?_,q Gi ((g2.same e1).same si)⟩⟩
     refine .inr ⟨B,L1,_,_,rfl,rfl,.inr ⟨SqL.of (si _ _ (e1 _ _ hBc)),SqL.of hi⟩,rfl,fun i u v hu hv=>?_⟩
     match i,hu,hv with
     |0,hu,hv=>cases hu;cases hv;exact Sam.atom trivial
     |1,hu,hv=>cases hu;cases hv;exact Sam.atom trivial
     |2,hu,hv=>cases hu;cases hv;exact Sam.atom trivial
     |3,hu,hv=>cases hu;cases hv;exact Sam.atom trivial
end
end My
set_option maxHeartbeats 400000
namespace L2
open PySem PySem.Spec PyProof.Rows
section
variable{X:Cx}
def PrT(H:Hp)(ts:List V)(l:List (Int×Int)):Prop:=ts.length=l.length/\∀t∈ts,∃q x y,(x,y)∈l/\t= .ref q/\H q=some (.tup [.int x,.int y])
def Zdn(l:List (Int×Int)):TA:=fun _ H Q=>∀ts H',Same H H'->PrT H' ts l->Q ts H'
structure PrE where
 a:Int
 ja:Nat
 pa:Pos
 b:Int
 jb:Nat
 pb:Pos
 k:Nat
 p:Pos
def PrE.mk'(c:PrE):Expr:= .Tuple [.Constant (.int c.a) c.ja c.pa,.Constant (.int c.b) c.jb c.pb] c.k c.p
def PrE.v(c:PrE):Int×Int:=(c.a,c.b)
def prE:Expr->PrE
 | .Tuple [.Constant (.int a) ja pa,.Constant (.int b) jb pb] k p=>⟨a,ja,pa,b,jb,pb,k,p⟩
 |_=>⟨0,0,⟨0,0,0,0⟩,0,0,⟨0,0,0,0⟩,0,⟨0,0,0,0⟩⟩
theorem Zf9:∀(cs:List PrE),PA X (cs.map PrE.mk') (Zdn (cs.map PrE.v))
 |[]=>fun pos pins s σ H Q I h=>Za pos pins s σ H Q I (h [] H (Same.refl H) ⟨rfl,fun t ht=>nomatch ht⟩)
 |c::cs=>fun pos pins s σ H Q I h=>by
  have key:PA X ((PrE.mk' c)::cs.map PrE.mk') (YS (Zh2 (YS (tC (.int c.a)) (YS (tC (.int c.b)) tNil))) (Zdn (cs.map PrE.v))):=
   Ze (Zu (Ze Zc (Ze Zc Za))) (Zf9 cs)
  refine key pos pins s σ H Q I ⟨rfl,fun p H1 s1 h1 ts H2 s2 hts=>h (.ref p::ts) H2 (Same.trans s1 s2) ⟨?_,fun t ht=>?_⟩⟩
  ·show ts.length+1=(cs.map PrE.v).length+1
   rw[hts.1]
  ·rcases List.mem_cons.mp ht with rfl|ht
   ·exact⟨p,c.a,c.b,.head _,rfl,s2 _ _ h1⟩
   ·obtain⟨q,x,y,a,b⟩:=hts.2 t ht
    exact⟨q,x,y,.tail _ a,b⟩
theorem ZcH(es:List Expr){l:List (Int×Int)}(h:(es.map prE).map PrE.mk'=es)(hs:(es.map prE).map PrE.v=l):PA X es (Zdn l):=by
 have:=Zf9 (X:=X) (es.map prE)
 rw[h,hs]at this
 exact this
end
section
variable{prog:Program}{w:World}{A:Around}{E:Value->Shared->Prop}{s:Shared}
theorem ZbS{it t:Addr}{items:Array Value}(hne:t≠it):∀(n i:Nat)(s:Shared)(Q:List Value->Shared->Prop),s.heap.IsListIter it t i->s.heap.IsList t items->i+n<=items.size->
  (∀h',h'.IsListIter it t (i+n)->Heap.SameBut it s.heap h'->Q ((items.toList.drop i).take n) {s with heap:=h'})->wpAny (model prog w) A (draw (.ref it) n) Q E s
 |0,i,s,Q,hit,_,_,hQ=>by
  show wpAny _ _ (pure []) Q E s
  exact wpAny_pure (by simpa using hQ s.heap hit (Heap.SameBut.refl ..))
 |n+1,i,s,Q,hit,ht,hle,hQ=>by
  have hlt:i<items.size:=by omega
  show wpAny _ _ (pyNext (.ref it)>>=_) Q E s
  refine wpAny_bind (wpAny_pyNext_list_item hit ht (x:=items[i]) (by simp[hlt]) fun h₁ hit₁ hs₁=>?_)
  refine wpAny_bind (wpAny_holding (ZbS hne n (i+1) _ _ hit₁ (ht.extBut hs₁.extBut hne) (by omega) fun h₂ hit₂ hs₂=>wpAny_pure ?_))
  have hd:items.toList.drop i=items[i]::items.toList.drop (i+1):=by simp[List.drop_eq_getElem_cons,hlt]
  have:=hQ h₂ (by rw[show i+(n+1)=i+1+n by omega];exact hit₂) (hs₁.trans hs₂)
  rw[hd,List.take_succ_cons]at this
  exact this
theorem Zao{t:Addr}{items:Array Value}{Q:List Value->Shared->Prop}(hh:A.handled=none)(ht:s.heap.IsList t items)
  (hQ:∀h',Heap.ExtBut s.heap.objs.size s.heap h'->Q items.toList {s with heap:=h'}):wpAny (model prog w) A (unpackItems (.ref t) items.size none) Q E s:=by
 have hlt:t≠s.heap.objs.size:=by obtain⟨o,ho,_⟩:=ht;exact Nat.ne_of_lt (Heap.lt_size ho)
 unfold unpackItems
 refine wpAny_bind ?_
 unfold notIterableAtAll
 refine wpAny_bind (wpAny_specialOf ht.typeIs PySem.F.slot_list_iter.lookup ?_)
 refine wpAny_pure ?_
 simp only[Bool.false_eq_true,if_false]
 refine wpAny_bind (wpAny_holding (wpAny_pyIter_list ht ?_))
 refine wpAny_bind (wpAny_holding (ZbS hlt items.size 0 _ _ ⟨_,Heap.get?_push_size _ rfl,rfl,rfl⟩ (ht.push _) (by omega) fun h₁ hit₁ hs₁=>?_))
 have hall:List.take items.size (List.drop 0 items.toList)=items.toList:=by
  rw[List.drop_zero];exact List.take_of_length_le (by simp)
 rw[hall]
 rw[if_neg (by simp)]
 have ht₁:h₁.IsList t items:=(ht.push _).extBut hs₁.extBut hlt
 refine wpAny_bind (wpAny_holding (wpAny_pyNext_list_end hh hit₁ ht₁ (by simp) fun h₂ he₂=>?_))
 simp only[Option.isSome_none,Bool.false_eq_true,if_false]
 exact wpAny_pure (hQ h₂ fun b o hb e=>he₂ b o hb (hs₁.extBut b o hb (Heap.get?_push_of_some _ e)))
theorem Zaj{env:Env}{elts:List Expr}{x1}{pos:Pos}{t:Addr}{items:Array Value}{Q:Unit->Shared->Prop}(hh:A.handled=none)(ht:s.heap.IsList t items)
  (hn:(assignEach elts env).length=items.size)(hstar:(assignEach elts env).findIdx? (·.1)=none)
  (h:∀h',Heap.ExtBut s.heap.objs.size s.heap h'->wpAny (model prog w) A (assignInOrder ((assignEach elts env).map (·.2)) items.toList) Q E {s with heap:=h'}):
  wpAny (model prog w) A (assign (.Tuple elts x1 pos) env (.ref t)) Q E s:=by
 rw[assign_Tuple]
 refine wpAny_bind (wpAny_standAt ?_)
 unfold unpack
 rw[hn,hstar]
 exact wpAny_bind (wpAny_holding (Zao hh ht h))
end
section
variable{X:Cx}
def Zl4(K:PySem.W.Frag)(n:Nat)(t:TGs):TG:=fun v σ H Q=>∃a xs,v= .ref a/\SqL K H a xs/\xs.length=n/\t xs σ H Q
theorem Zil{es:List Expr}{k:Nat}{t:TGs}{n:Nat}{pos:Pos}(hc:X.calm=true)(h:PGs X es t)
  (hn:(assignEach es X.env).length=n:=by rfl)(hst:(assignEach es X.env).findIdx? (·.1)=none:=by rfl):PG X (.Tuple es k pos) (Zl4 X.K n t):=by
 intro pins s σ H v u Q I r hw
 obtain⟨a,xs,e1,hq,hl,hw⟩:=hw
 subst e1
 cases r
 obtain⟨its,rv,ht,hz⟩:=I.list hq
 refine Zaj (I.ok.hd hc) ht.isList (by simp[hn,<-hl,rv.length]) hst fun h' hx=>?_
 have I1:Inv X pins σ H {s with heap:=h'}:=I.kept (t':=s.toks) fun b o e=>hx b o (Nat.ne_of_lt (Heap.lt_size e)) e
 exact h pins _ σ H xs _ Q I1 (by simpa using rv) hw
end
end L2
set_option maxHeartbeats 2000000
namespace My
open PySem L2
theorem ZcE{H:Hp}{ts:List V}{l:List (Int×Int)}{n:Int}(h:PrT H ts l)(k:∀p∈l,0<=p.1/\p.1<n/\0<=p.2/\p.2<n/\p.1≠p.2):Ties H n ts:=fun t ht=>by
 obtain⟨q,x,y,a,b,c⟩:=h.2 t ht
 exact⟨q,x,y,b,c,k _ a⟩
theorem ZdH{ts:List V}{a b:Option Int}{t:V}(h:t∈Ys ts a b):t∈ts:=by
 unfold Ys at h
 exact List.mem_of_mem_drop (List.mem_of_mem_take h)
theorem mem_set{α:Type}{l:List α}{i:Nat}{a x:α}(h:x∈l.set i a):x=a\/x∈l:=by
 rcases List.mem_or_eq_of_mem_set h with z|z
 ·exact .inr z
 ·exact .inl z
section
variable{P:Program}{w:World}{K:PySem.W.Frag}{mg:Str->Option Value}{base:Heap}
abbrev sPa:Stmt:=top 27
abbrev nPa:List Str:=["_law_draws_here","_law_at","_law_kind","_law_number","_law_ties","_law_k","_law_points","_law_pick","_law_one"]
abbrev pPa:List Str:=["_law_draws_here","_law_at","_law_kind"]
def paC:Stmt->Scope
 | .If _ (.Assign _ (.ListComp _ _ s _) _::_) _ _=>s
 |_=>{kind:= .function,names:=[],isGenerator:=false,isCoroutine:=false}
abbrev paS:Scope:=paC ((Zj sPa).getD 2 (.Pass ⟨0,0,0,0⟩))
theorem scPa:Zx nPa pPa (Zd sPa):=⟨rfl,rfl,rfl,by decide+kernel,rfl,by decide+kernel,by decide+kernel⟩
theorem Zll:(["_law_k"]:List Str).Nodup:=by decide+kernel
theorem Zkq{f:Addr}{cdv:Value}{A:Around}{outer:List Env}{s:Shared}{H:Hp}{E:XK}:
  Blk (ZF CX0 P w K mg base nPa "_law_pairs" (Zd sPa) f cdv A outer s H E).nox paS [] ["_law_k"] [none]:=by
 refine⟨rfl,rfl,by decide+kernel,by decide+kernel,fun p hp=>(by cases hp),fun y hy e=>?_,trivial⟩
 have hy':y∈[((PySem.Str.ofString ".0":Str),NameKind.local),(PySem.Str.ofString "_law_k",.local)]:=hy
 simp only[List.mem_cons,List.not_mem_nil,or_false]at hy'
 rcases hy' with rfl|rfl<;>cases e
def PrL(H:Hp)(r:Addr)(n:Int)(ts:List V):Prop:=∃l,H r=some (.lst [.int n,.ref l])/\H l=some (.lst ts)/\Ties H n ts/\2<=n/\n<=9/\ts.length<=14
def ZhX(K:PySem.W.Frag):Sp:=fun vs H Q _=>∃(a:Addr)(ns:List Int)(kd:Int),vs=[.ref a,.int 8,.int kd]/\SqL K H a (ns.map V.int)/\Dr ns/\
 ∀H' r n ts,Same H H'->PrL H' r n ts->Q (.ref r) H'
abbrev nine:List (Int×Int):=[(0,1),(1,2),(2,3),(3,4),(4,0),(0,5),(1,6),(2,7),(3,8),(5,7),(6,8),(8,5)]
def dsE:Stmt->List Expr
 | .If _ (.Assign _ (.List es _) _::_) _ _=>es
 | .If _ (_:: .For _ _ (.Assign _ (.BinOp _ _ (.List es _) _) _::_) _ _::_) _ _=>es
 |_=>[]
def Zk5:Stmt->Stmt
 | .If _ [_,.For _ _ [b] _ _,_] _ _=>b
 |s=>s
theorem Zj2{f:Addr}{fd:FuncData}(F:Fun K "_law_pairs" "_law_pairs" sPa f fd)(T:Bi mg)(FD:FnE P w K mg base "_law_draw" ["_law_draws_here","_law_k"] 1 (Jn K)):
  FnOk P w K mg base CX0 2 f fd pPa (ZhX K):=by
 refine F.ok scPa (fun vs H Q E h=>?_) (fun cdv A outer s H vs Q E hr h=>?_)
 ·obtain⟨a,ns,kd,rfl,_⟩:=h
  rfl
 ·obtain⟨a,ns,kd,rfl,hS,hD,q⟩:=h
  have hr1:Room 1 _:=hr.mono (by decide)
  obtain⟨t4,ht4,r4⟩:∃t,PSs (ZF CX0 P w K mg base nPa "_law_pairs" (Zd sPa) f cdv A outer s H E).nox ((Zj sPa).drop 4) t/\
    t {nx:=fun _ H'=>Q .non H',rt:=Q} [some (.ref a),some (.int 8),some (.int kd),some (.int (draw ns 8)),none,none,none,none,none] H:=by
   refine⟨_,Zb (Zm (i:=6) scPa.nd rfl (Or.inl rfl) (Zq ZE Zc (Zq ZC (pv 3) Zc)))
    (Zb (Zm (i:=4) scPa.nd rfl (Or.inl rfl) (Jc Za))
    (Zb (ZZ PassesOwn.never rfl (ZM rfl T.range (Ze (Zq ZC (Zq YG (pv 3) Zc) Zc) Za)) (Zt (i:=5) scPa.nd rfl (Or.inl rfl))
     (Zb (Zm (i:=7) scPa.nd rfl (Or.inl rfl) (Z0 FD hr1 (Ze (pv 0) (Ze (Zq ZE (Zq ZE (pv 1) Zc) (pv 5)) Za))))
     (Zb (Zm (i:=8) scPa.nd rfl (Or.inl rfl) (Zq ZC (pv 7) (pv 6)))
     (Zb (YD (Jo PySem.F.plainAttrs_list PySem.F.slot_list_append PySem.F.type_list_append Yu (pv 4) (Ze (Zu (Ze (pv 8) (Ze (Zq ZC (Zq ZE (Zq ZE (pv 8) Zc) (Zq ZC (Zq YG (pv 7) Zc) (Zq Jd (pv 6) Zc))) (pv 6)) Za))) Za)))
     (Zh (Z3 (PW.pt (pw_and (Zi ZR (pv 2) Zc (Zp _)) (pw_and1 (Zi Zbc (pv 5) (pv 6) (Zp _)))))
      (Zh (JH (Zu (Ze (pv 5) (Ze (Zq ZC (Zq ZE (pv 5) Zc) (pv 6)) Za))) (Zba (pv 4) (pv 5) set_list))) Zr))))))
    (Zh (Z2 (Yb (Ze (pv 6) (Ze (pv 4) Za)))))))
    ,?_⟩
   have n0:=Zho ns 8
   have m0:=Ya (n:=draw ns 8) (p:=6) (by decide)
   have m1:=Yk (n:=draw ns 8) (p:=6) (by decide)
   have e0:=Ya (n:=draw ns 8/8) (p:=15) (by decide)
   have e1:=Yk (n:=draw ns 8/8) (p:=15) (by decide)
   refine⟨_,rfl,_,_,rfl,rfl,(by show(0:Int)<6;decide),_,_,rfl,rfl,?_⟩
   obtain⟨p,hp⟩:∃p,2+draw ns 8%6=p:=⟨_,rfl⟩
   dsimp only[Jw]
   rw[hp]
   generalize hm:draw ns 8/8%15=m at e0 e1
   refine⟨Nat.zero_le _,fun B hB=>?_⟩
   have sB:Same H (upd H B (.lst [])):=Zs hB
   refine⟨_,rfl,_,_,rfl,rfl,⟨by decide,by decide⟩,_,_,rfl,rfl,(by show(0:Int)<15;decide),m,congrArg (fun z=>[V.int z]) hm,by omega,by omega,?_⟩
   refine ZT (lo:=0) (n:=m.toNat) (fun i σ G=>∃(v5 v7 v8:Option V)(ts:List V),σ=[some (.ref a),some (.int 8),some (.int kd),some (.int (draw ns 8)),some (.ref B),v5,some (.int p),v7,v8]/\Same H G/\G B=some (.lst ts)/\Ties G p ts/\ts.length=i)
    ⟨_,_,_,[],rfl,sB,Zf,(fun t ht=>nomatch ht),rfl⟩ (fun i σ G hi⟨v5,v7,v8,ts,e,sG,hG,hT,hl⟩=>?_) (fun σ G⟨v5,v7,v8,ts,e,sG,hG,hT,hl⟩=>?_)
   ·subst e
    rw[Int.zero_add]
    refine⟨_,rfl,_,rfl,_,_,rfl,rfl,_,rfl,_,_,rfl,rfl,a,ns,_,rfl,sG.seq hS,hD,by omega,by omega,?_⟩
    generalize draw ns (8+1+(i:Int))=d
    have x0:=Ya (n:=d) (p:=p) (by omega)
    have x1:=Yk (n:=d) (p:=p) (by omega)
    have z0:=Ya (n:=d/64) (p:=p-1) (by omega)
    have z1:=Yk (n:=d/64) (p:=p-1) (by omega)
    refine⟨_,rfl,_,rfl,_,_,rfl,rfl,(by show(0:Int)<p;omega),?_⟩
    refine⟨_,rfl,.inl ⟨rfl,_,SqL.of hG⟩,_,rfl,_,rfl,_,_,rfl,rfl,_,rfl,_,_,rfl,rfl,⟨by decide,by decide⟩,_,rfl,_,_,rfl,rfl,_,_,rfl,rfl,(by show(0:Int)<p-1;omega),_,_,rfl,rfl,_,rfl,_,_,rfl,rfl,(by show(0:Int)<p;omega),rfl,fun c G1 s1 h1=>?_⟩
    have y0:=Ya (n:=d%p+1+d/64%(p-1)) (p:=p) (by omega)
    have y1:=Yk (n:=d%p+1+d/64%(p-1)) (p:=p) (by omega)
    have key:∀x z:Int,0<=x->x<p->0<=z->z<p-1->x≠(x+1+z)%p:=fun x z a1 a2 a3 a4 q=>by
     by_cases hlt:x+1+z<p
     ·rw[Int.emod_eq_of_lt (by omega) hlt]at q
      omega
     ·have h2:(x+1+z)%p=x+1+z-p:=by
       rw[<-Int.sub_emod_right,Int.emod_eq_of_lt (by omega) (by omega)]
      omega
    have xy:=key _ _ x0 x1 z0 z1
    have hG1:=s1 _ _ hG
    have sG1:=Same.trans sG s1
    have hsz:ts.length<sizeLine:=Nat.lt_of_lt_of_le (show ts.length<1000 by omega) (Yq (by decide))
    refine⟨B,ts,_,rfl,rfl,hG1,hsz,?_⟩
    generalize hG2:upd G1 B (.lst (ts++[.ref c]))=G2
    have hB2:G2 B=some (.lst (ts++[.ref c])):=by rw[<-hG2];exact Zf
    have s2:Same H G2:=by rw[<-hG2];exact sG1.wr hB
    have kt:∀q xs,G1 q=some (.tup xs)->G2 q=some (.tup xs):=fun q xs e=>by rw[<-hG2,Zg (Zbg e hG1 fun z=>nomatch z)];exact e
    have hT2:Ties G2 p (ts++[.ref c]):=fun t ht=>by
     rcases List.mem_append.mp ht with z|z
     ·obtain⟨q,i',j',e1,e2,e3⟩:=hT t z
      exact⟨q,i',j',e1,kt _ _ (s1 _ _ e2),e3⟩
     ·rw[List.mem_singleton.mp z]
      exact⟨c,_,_,rfl,kt _ _ h1,x0,x1,y0,y1,xy⟩
    have hl2:(ts++[V.ref c]).length=i+1:=by rw[List.length_append,hl];rfl
    refine⟨_,rfl,rfl,_,rfl,?_⟩
    refine ZQ (fun _=>?_) (fun _=>?_)
    ·refine⟨_,rfl,_,rfl,_,_,rfl,rfl,_,rfl,?_⟩
     refine ZQ (fun hlt=>?_) (fun _=>?_)
     ·have hlt:=of_decide_eq_true hlt
      have w0:=Ya (n:=(i:Int)+1) (p:=p) (by omega)
      have w1:=Yk (n:=(i:Int)+1) (p:=p) (by omega)
      refine⟨_,rfl,_,rfl,_,_,rfl,rfl,_,rfl,_,_,rfl,rfl,(by show(0:Int)<p;omega),rfl,fun c2 G3 s3 h3=>?_⟩
      have hB3:=s3 _ _ hB2
      refine⟨_,rfl,_,rfl,B,_,(i:Int),i,rfl,rfl,hB3,?_,?_⟩
      ·rw[hl2]
       unfold ixN
       rw[if_pos (by omega),if_pos (by omega)]
       simp
      ·refine⟨_,_,_,_,rfl,(Same.trans s2 s3).wr hB,Zf,fun t ht=>?_,by rw[List.length_set];exact hl2⟩
       have kt3:∀q xs,G3 q=some (.tup xs)->upd G3 B (.lst ((ts++[V.ref c]).set i (.ref c2))) q=some (.tup xs):=fun q xs e=>by rw[Zg (Zbg e hB3 fun z=>nomatch z)];exact e
       rcases mem_set ht with rfl|ht
       ·refine⟨c2,_,_,rfl,kt3 _ _ h3,by omega,hlt,w0,w1,fun q=>?_⟩
        by_cases hq:(i:Int)+1<p
        ·rw[Int.emod_eq_of_lt (by omega) hq]at q
         omega
        ·have:(i:Int)+1=p:=by omega
         rw[this,Int.emod_self]at q
         omega
       ·obtain⟨q,i',j',e1,e2,e3⟩:=hT2 t ht
        exact⟨q,i',j',e1,kt3 _ _ (s3 _ _ e2),e3⟩
     ·exact⟨_,_,_,_,rfl,s2,hB2,hT2,hl2⟩
    ·exact⟨_,_,_,_,rfl,s2,hB2,hT2,hl2⟩
   ·subst e
    refine⟨_,rfl,_,rfl,rfl,fun r G1 s1 h1=>q G1 r p ts (Same.trans sG s1) ⟨B,h1,s1 _ _ hG,hT.same s1,by omega,by omega,by omega⟩⟩
  obtain⟨es,tst,rs,p1,p2,p3,p4,eq3,htst,ge,gf,hrs⟩:∃(es:List Expr)(tst:Expr)(rs:Stmt)(p1 p2 p3 p4:Pos),(Zj sPa).drop 3= .If tst [.Assign [.Name "_law_ties" p1] (.List es p2) p3,rs] [] p4::(Zj sPa).drop 4/\
    PT (ZF CX0 P w K mg base nPa "_law_pairs" (Zd sPa) f cdv A outer s H E).nox tst (Zfj (tOp rEq (Zcd 2) (tC (.int 4))))/\(es.map prE).map PrE.mk'=es/\(es.map prE).map PrE.v=nine/\
    PS (ZF CX0 P w K mg base nPa "_law_pairs" (Zd sPa) f cdv A outer s H E).nox rs (ZiT (Zc8 (YS (tC (.int 9)) (YS (Zcd 4) tNil)))):=
   ⟨_,_,_,_,_,_,_,rfl,Zi ZR (pv 2) Zc (Zp _),rfl,rfl,Z2 (Yb (Ze Zc (Ze (pv 4) Za)))⟩
  have hpe:PA (ZF CX0 P w K mg base nPa "_law_pairs" (Zd sPa) f cdv A outer s H E).nox es (Zdn nine):=ZcH es ge gf
  clear ge gf
  obtain⟨L4,hL4⟩:∃l,l=(Zj sPa).drop 4:=⟨_,rfl⟩
  rw[<-hL4]at eq3 ht4
  obtain⟨L3,hL3⟩:∃l,l=(Zj sPa).drop 3:=⟨_,rfl⟩
  rw[<-hL3]at eq3
  obtain⟨t3,ht3,r3⟩:∃t,PSs (ZF CX0 P w K mg base nPa "_law_pairs" (Zd sPa) f cdv A outer s H E).nox L3 t/\
    t {nx:=fun _ H'=>Q .non H',rt:=Q} [some (.ref a),some (.int 8),some (.int kd),some (.int (draw ns 8)),none,none,none,none,none] H:=by
   rw[eq3]
   refine⟨_,Zb (Z3 htst (Zb (Zm (i:=4) scPa.nd rfl (Or.inl rfl) (Yb hpe)) (Zh hrs)) Zr) ht4,?_⟩
   refine⟨_,rfl,rfl,_,rfl,?_⟩
   refine ZQ (fun _=>?_) (fun _=>r4)
   refine fun ts G s1 hp=>⟨by rw[hp.1];rfl,fun l G1 s2 hl=>⟨_,rfl,rfl,fun r G2 s3 h2=>?_⟩⟩
   exact q G2 r 9 ts (Same.trans s1 (Same.trans s2 s3)) ⟨l,h2,s3 _ _ hl,Ties.same (ZcE hp (by decide)) (Same.trans s2 s3),by decide,by decide,by rw[hp.1];decide⟩
  clear eq3 hpe
  have cutok:∀(G:Hp)(l:Addr)(ts:List V)(n:Int)(lo:Option Int)(p:Addr),G l=some (.lst ts)->Ties G n ts->2<=n->n<=9->ts.length<=14->Same H G->G p=none->∀r G2,Same (upd G p (.lst (Ys ts none lo))) G2->G2 r=some (.lst [.int n,.ref p])->Q (.ref r) G2:=fun G l ts n lo p hl hT h2 h9 h14 sG hp r G2 s2 hr2=>
   q G2 r n (Ys ts none lo) (Same.trans sG (Same.trans (Zs hp) s2)) ⟨p,hr2,s2 _ _ Zf,fun t ht=>((hT t (ZdH ht)).same (Same.trans (Zs hp) s2)),h2,h9,Nat.le_trans (ZK _ _ _) h14⟩
  obtain⟨t2,ht2,rr2⟩:∃t,PS (ZF CX0 P w K mg base nPa "_law_pairs" (Zd sPa) f cdv A outer s H E).nox ((Zj sPa).getD 2 (.Pass ⟨0,0,0,0⟩)) t/\
    ∀D:Ends,D.rt=Q->D.nx [some (.ref a),some (.int 8),some (.int kd),some (.int (draw ns 8)),none,none,none,none,none] H->t D [some (.ref a),some (.int 8),some (.int kd),some (.int (draw ns 8)),none,none,none,none,none] H:=by
   refine⟨_,Z3 (Zi ZR (pv 2) Zc (Zp _)) (Zb (Zii Zkq rfl rfl T.range (Ze Zc Za) (ZN (YB _) Yc) rfl (fun C fp s H=>Zt (i:=0) Zll rfl (Or.inl rfl)) (fun C fp s H=>YK)
     (fun C fp s H=>Zu (Ze (Zq ZC (pv 0) Zc) (Ze (Zq ZC (Zq ZE (Zq ZE (pv 0) Zc) (Zq YG (pv 0) Zc)) Zc) Za))) (Zt (i:=4) scPa.nd rfl (Or.inl rfl)) rfl)
    (Zh (Z2 (Yb (Ze Zc (Ze (Yx J6 (pv 4) YF (YE (Zq Jd Zc (Zq ZC (pv 3) Zc)))) Za)))))) Zr,fun D hDr hDn=>?_⟩
   refine⟨_,rfl,rfl,_,rfl,?_⟩
   refine ZQ (fun _=>?_) (fun _=>hDn)
   refine⟨10,rfl,by decide,fun i ys σ G=>Same H G/\ys.length=i/\Ties G 5 ys/\∃v0,σ=[v0],⟨Same.refl H,rfl,(fun t ht=>nomatch ht),none,rfl⟩,fun i ys σ G hi⟨_,e,_⟩=>Nat.le_of_eq e,fun i ys σ G hi⟨sG,hl,hT,v0,e⟩=>?_,fun ys σ G⟨sG,hl,hT,_⟩ l G1 s1 hl1=>?_⟩
   ·subst e
    rw[Int.zero_add]
    have a0:=Ya (n:=(i:Int)) (p:=5) (by decide)
    have a1:=Yk (n:=(i:Int)) (p:=5) (by decide)
    have b0:=Ya (n:=(i:Int)+1+(i:Int)/5) (p:=5) (by decide)
    have b1:=Yk (n:=(i:Int)+1+(i:Int)/5) (p:=5) (by decide)
    refine⟨_,rfl,_,_,rfl,rfl,(by show(0:Int)<5;decide),_,rfl,_,_,rfl,rfl,_,rfl,_,_,rfl,rfl,⟨by decide,by decide⟩,_,_,rfl,rfl,_,_,rfl,rfl,(by show(0:Int)<5;decide),rfl,fun c G1 s1 h1=>?_⟩
    refine⟨Same.trans sG s1,by rw[List.length_append,hl];rfl,fun t ht=>?_,_,rfl⟩
    rcases List.mem_append.mp ht with z|z
    ·exact(hT t z).same s1
    ·rw[List.mem_singleton.mp z]
     exact⟨c,_,_,rfl,h1,a0,a1,b0,b1,by omega⟩
   ·refine⟨_,rfl,_,rfl,_,_,rfl,rfl,(by show(0:Int)<3;decide),_,_,rfl,rfl,_,rfl,l,ys,rfl,SqL.of hl1,fun p hp=>⟨rfl,fun r G2 s2 h2=>?_⟩⟩
    rw[hDr]
    exact cutok G1 l ys 5 _ p hl1 (hT.same s1) (by decide) (by decide) (by omega) (Same.trans sG s1) hp r G2 s2 h2
  obtain⟨es1,b1,b2,b3,b4,b5,eb,he1,hf1⟩:∃(es:List Expr)(p1 p2 p3 p4 p5:Pos),Zk5 ((Zj sPa).getD 1 (.Pass ⟨0,0,0,0⟩))= .Assign [.Name "_law_ties" p1] (.BinOp (.Name "_law_ties" p2) .Add (.List es p3) p4) p5/\(es.map prE).map PrE.mk'=es/\(es.map prE).map PrE.v=[(0,1),(1,2),(2,0)]:=⟨_,_,_,_,_,_,rfl,rfl,rfl⟩
  have hpe1:PA (ZF CX0 P w K mg base nPa "_law_pairs" (Zd sPa) f cdv A outer s H E).nox es1 (Zdn [(0,1),(1,2),(2,0)]):=ZcH es1 he1 hf1
  clear he1 hf1
  have hbd0:PS (ZF CX0 P w K mg base nPa "_law_pairs" (Zd sPa) f cdv A outer s H E).nox (Zk5 ((Zj sPa).getD 1 (.Pass ⟨0,0,0,0⟩))) (Zdo (tOp rCatLS (Zcd 4) (Zc8 (Zdn [(0,1),(1,2),(2,0)]))) (Jw 4)):=by
   rw[eb]
   exact Zm (i:=4) scPa.nd rfl (Or.inl rfl) (Zq Jr (pv 4) (Yb hpe1))
  clear eb hpe1
  obtain⟨tst1,s1,ia,bd,s3,r1,r2,q1,q2,q3,e1,htst1,hs1,hit,hbd,t3',hs3,r3'⟩:∃(tst:Expr)(s1:Stmt)(ia:Expr)(bd s3:Stmt)(r1 r2 q1 q2 q3:Pos),(Zj sPa).getD 1 (.Pass ⟨0,0,0,0⟩)= .If tst [s1,.For (.Name "_law_k" q1) (.Call (.Name "range" r1) [ia] [] r2) [bd] [] q2,s3] [] q3/\
    PT (ZF CX0 P w K mg base nPa "_law_pairs" (Zd sPa) f cdv A outer s H E).nox tst (Zfj (tOp rEq (Zcd 2) (tC (.int 1))))/\PS (ZF CX0 P w K mg base nPa "_law_pairs" (Zd sPa) f cdv A outer s H E).nox s1 (Zdo (Zc8 tNil) (Jw 4))/\PI (ZF CX0 P w K mg base nPa "_law_pairs" (Zd sPa) f cdv A outer s H E).nox (.Name "_law_k" q1) (.Call (.Name "range" r1) [ia] [] r2) (ZcR (YS (tOp (rI0 fun i j=>V.int (i+j)) (tC (.int 1)) (tOp (rI (fun x j=>0<j) fun i j=>V.int (i%j)) (Zcd 3) (tC (.int 4)))) tNil))/\
    PS (ZF CX0 P w K mg base nPa "_law_pairs" (Zd sPa) f cdv A outer s H E).nox bd (Zdo (tOp rCatLS (Zcd 4) (Zc8 (Zdn [(0,1),(1,2),(2,0)]))) (Jw 4))/\∃t,PS (ZF CX0 P w K mg base nPa "_law_pairs" (Zd sPa) f cdv A outer s H E).nox s3 t/\∀(D:Ends)(G:Hp)(l:Addr)(ts:List V)(v5:Option V),D.rt=Q->Same H G->G l=some (.lst ts)->Ties G 3 ts->ts.length<=14->t D [some (.ref a),some (.int 8),some (.int kd),some (.int (draw ns 8)),some (.ref l),v5,none,none,none] G:=by
   refine⟨_,_,_,_,_,_,_,_,_,_,rfl,Zi ZR (pv 2) Zc (Zp _),Zm (i:=4) scPa.nd rfl (Or.inl rfl) (Yb Za),ZM rfl T.range (Ze (Zq ZE Zc (Zq ZC (pv 3) Zc)) Za),hbd0,_,Z2 (Yb (Ze Zc (Ze (Yx J6 (pv 4) YF (YE (Zq Jd (Zn Zk rfl T.len Ye (Ze (pv 4) Za)) (Zq ZC (Zq YG (pv 3) Zc) Zc)))) Za))),fun D G l ts v5 hDr sG hl hT h14=>?_⟩
   refine⟨_,rfl,_,rfl,l,_,rfl,.inl (SqL.of hl),_,rfl,_,_,rfl,rfl,⟨by decide,by decide⟩,_,_,rfl,rfl,(by show(0:Int)<3;decide),_,_,rfl,rfl,_,rfl,l,ts,rfl,SqL.of hl,fun p hp=>⟨rfl,fun r G2 s2 h2=>?_⟩⟩
   rw[hDr]
   exact cutok G l ts 3 _ p hl hT (by decide) (by decide) h14 sG hp r G2 s2 h2
  obtain⟨g1,hg1⟩:∃g,g=(Zj sPa).getD 1 (.Pass ⟨0,0,0,0⟩):=⟨_,rfl⟩
  rw[<-hg1]at e1
  obtain⟨t1,ht1,rr1⟩:∃t,PS (ZF CX0 P w K mg base nPa "_law_pairs" (Zd sPa) f cdv A outer s H E).nox g1 t/\
    ∀D:Ends,D.rt=Q->D.nx [some (.ref a),some (.int 8),some (.int kd),some (.int (draw ns 8)),none,none,none,none,none] H->t D [some (.ref a),some (.int 8),some (.int kd),some (.int (draw ns 8)),none,none,none,none,none] H:=by
   rw[e1]
   refine⟨_,Z3 htst1 (Zb hs1 (Zb (ZZ PassesOwn.never rfl hit (Zt (i:=5) scPa.nd rfl (Or.inl rfl)) (Zh hbd)) (Zh hs3))) Zr,fun D hDr hDn=>?_⟩
   refine⟨_,rfl,rfl,_,rfl,?_⟩
   refine ZQ (fun _=>?_) (fun _=>hDn)
   refine⟨rfl,fun B G0 s0 hB=>?_⟩
   have m0:=Ya (n:=draw ns 8) (p:=4) (by decide)
   have m1:=Yk (n:=draw ns 8) (p:=4) (by decide)
   generalize hm:draw ns 8%4=m at m0 m1
   refine⟨_,rfl,_,_,rfl,rfl,(by show(0:Int)<4;decide),_,_,rfl,rfl,1+m,congrArg (fun z=>[V.int (1+z)]) hm,by omega,by omega,?_⟩
   refine ZT (lo:=0) (n:=(1+m).toNat) (fun i σ G=>∃(l:Addr)(v5:Option V)(ts:List V),σ=[some (.ref a),some (.int 8),some (.int kd),some (.int (draw ns 8)),some (.ref l),v5,none,none,none]/\Same H G/\G l=some (.lst ts)/\Ties G 3 ts/\ts.length=3*i)
    ⟨B,_,[],rfl,s0,hB,(fun t ht=>nomatch ht),rfl⟩ (fun i σ G hi⟨l,v5,ts,e,sG,hl,hT,hn⟩=>?_) (fun σ G⟨l,v5,ts,e,sG,hl,hT,hn⟩=>?_)
   ·subst e
    refine⟨_,rfl,fun zs G1 s1 hp=>⟨by rw[hp.1];rfl,fun l2 G2 s2 hl2=>⟨l,l2,ts,zs,rfl,rfl,s2 _ _ (s1 _ _ hl),hl2,by rw[hp.1,hn];simp only[List.length_cons,List.length_nil];omega,fun l3 G3 s3 hl3=>?_⟩⟩⟩
    refine⟨l3,_,ts++zs,rfl,Same.trans sG (Same.trans s1 (Same.trans s2 s3)),hl3,fun t ht=>?_,by rw[List.length_append,hp.1,hn];simp only[List.length_cons,List.length_nil];omega⟩
    rcases List.mem_append.mp ht with z|z
    ·exact(hT t z).same (Same.trans s1 (Same.trans s2 s3))
    ·exact(ZcE hp (by decide) t z).same (Same.trans s2 s3)
   ·subst e
    exact r3' D G l ts v5 hDr sG hl hT (by omega)
  have eB:Zj sPa=(Zj sPa).getD 0 (.Pass ⟨0,0,0,0⟩)::(Zj sPa).getD 1 (.Pass ⟨0,0,0,0⟩)::(Zj sPa).getD 2 (.Pass ⟨0,0,0,0⟩)::L3:=by rw[hL3];rfl
  obtain⟨t0,ht0,r0⟩:∃t,PS (ZF CX0 P w K mg base nPa "_law_pairs" (Zd sPa) f cdv A outer s H E).nox ((Zj sPa).getD 0 (.Pass ⟨0,0,0,0⟩)) t/\
    ∀D:Ends,D.nx [some (.ref a),some (.int 8),some (.int kd),some (.int (draw ns 8)),none,none,none,none,none] H->t D (start nPa [.ref a,.int 8,.int kd]) H:=
   ⟨_,Zm (i:=3) scPa.nd rfl (Or.inl rfl) (Z0 FD hr1 (Ze (pv 0) (Ze (pv 1) Za))),fun D h=>⟨_,rfl,_,rfl,a,ns,_,rfl,hS,hD,by decide,by decide,h⟩⟩
  obtain⟨g0,hg0⟩:∃g,g=(Zj sPa).getD 0 (.Pass ⟨0,0,0,0⟩):=⟨_,rfl⟩
  obtain⟨g2,hg2⟩:∃g,g=(Zj sPa).getD 2 (.Pass ⟨0,0,0,0⟩):=⟨_,rfl⟩
  rw[<-hg0]at ht0
  rw[<-hg2]at ht2
  rw[<-hg0,<-hg1,<-hg2]at eB
  rw[eB]
  exact⟨_,Zb ht0 (Zb ht1 (Zb ht2 ht3)),r0 _ (rr1 _ rfl (rr2 _ rfl r3))⟩
end
end My
set_option maxHeartbeats 2000000
namespace My
open PySem L2
theorem Zhr{ts:List V}{r:Int}{t:V}(h:t∈Ys ts (some r) none++Ys ts none (some r)):t∈ts:=by
 rcases List.mem_append.mp h with z|z
 ·exact ZdH z
 ·exact ZdH z
theorem Zhs(ts:List V)(r:Int)(h:0<=r):(Ys ts (some r) none++Ys ts none (some r)).length=ts.length:=by
 obtain⟨k,rfl⟩:∃k:Nat,r=(k:Int):=⟨r.toNat,by omega⟩
 unfold Ys
 rw[HT.sIx_nat,HT.sIx_nat,HT.sIx_none,HT.sIx_none]
 simp only[List.length_append,List.length_take,List.length_drop]
 omega
theorem ZjR{l:List Int}(h:l.Nodup){i j:Nat}{x:Int}(hi:l[i]?=some x)(hj:l[j]?=some x):i=j:=by
 obtain⟨a1,a2⟩:=List.getElem?_eq_some_iff.mp hi
 obtain⟨b1,b2⟩:=List.getElem?_eq_some_iff.mp hj
 exact Classical.byContradiction fun z=>Zd6 h a1 b1 z (a2.trans b2.symm)
theorem TieOk.tk{H H':Hp}{n:Int}{t:V}(h:TieOk H n t)(k:Tk H H'):TieOk H' n t:=let⟨q,i,j,a,b,c⟩:=h;⟨q,i,j,a,k _ _ b,c⟩
theorem Ties.tk{H H':Hp}{n:Int}{ts:List V}(h:Ties H n ts)(k:Tk H H'):Ties H' n ts:=fun t ht=>(h t ht).tk k
section
variable{P:Program}{w:World}{K:PySem.W.Frag}{mg:Str->Option Value}{base:Heap}{Pu c:Addr}
abbrev sNt:Stmt:=top 28
abbrev Zi5:Expr:=ZhC ((Zj sNt).getD 2 (.Pass ⟨0,0,0,0⟩))
abbrev Zd4:Pos:=⟨167,54,167,126⟩
abbrev Za7:Str:="_law_net.<locals>.<lambda>"
abbrev nNt:List Str:=["_law_draws_here","_law_at","_law_points","_law_ties","_law_order","_law_found","_law_k","_law_pair","_law_turn"]
def ZhY(K:PySem.W.Frag)(Pu:Addr):Sp:=fun vs H Q _=>∃(a:Addr)(ns:List Int),vs=[.ref a,.int 8]/\SqL K H a (ns.map V.int)/\Dr ns/\TabI Pu Zd4 Za7 H/\
 ∀(H':Hp)(p:Addr)(n:Nat)(q:Addr)(ts:List V)(es:List (Nat×Nat)),Gr Pu Zd4 Za7 H H'->NetZ H' p n q ts es->2<=n->n<=9->es.length<=14->Q (.ref p) H'
theorem scNt:Zx nNt ["_law_draws_here","_law_at"] (Zd sNt):=⟨rfl,rfl,rfl,by decide+kernel,rfl,by decide+kernel,by decide+kernel⟩
theorem Zka:Lam "_law_point" ["_law_draws_here","_law_at"] (Zeh Zi5) (JZ Zi5):=
 ⟨rfl,rfl,rfl,by decide+kernel,rfl,fun _ _ _ _ _ _ _ _=>rfl,by decide+kernel⟩
theorem Zkt{f:Addr}{A:Around}{outer:List Env}{s:Shared}{H:Hp}{E:XK}:
  Blk (ZF CX0 P w K mg base nNt "_law_net" (Zd sNt) f (.ref c) A outer s H E).nox (JZ Zi5) [("_law_draws_here",s.heap.objs.size+1),("_law_at",s.heap.objs.size+2)] ["_law_draws_here","_law_at"] [some 0,some 1]:=by
 refine⟨rfl,rfl,by decide+kernel,by decide+kernel,fun p hp=>?_,fun y hy e=>?_,⟨rfl,rfl,rfl⟩,⟨rfl,rfl,rfl⟩,trivial⟩
 ·rcases List.mem_cons.mp hp with rfl|hp
  ·rfl
  ·rw[List.mem_singleton.mp hp]
   rfl
 ·have hy':y∈[((PySem.Str.ofString "_law_point":Str),NameKind.local),(PySem.Str.ofString "_law_at",.free),(PySem.Str.ofString "_law_draws_here",.free),(PySem.Str.ofString "_law_draw",.globalImplicit)]:=hy
  simp only[List.mem_cons,List.not_mem_nil,or_false]at hy'
  rcases hy' with rfl|rfl|rfl|rfl
  ·cases e
  ·rfl
  ·rfl
  ·cases e
theorem Zj3{f:Addr}{fd:FuncData}(F:FunC K "_law_net" "_law_net" sNt f fd c)(T:Bi mg)(hso:mg "sorted"=none)(hbm:BM mg base)(hC:PySem.W.codeHdIn K c Pu=true)
  (FD:FnE P w K mg base "_law_draw" ["_law_draws_here","_law_k"] 1 (Jn K))(FP:FnE P w K mg base "_law_pairs" pPa 2 (ZhX K)):
  FnOk P w K mg base CX0 5 f fd ["_law_draws_here","_law_at"] (ZhY K Pu):=by
 refine F.ok scNt (fun vs H Q E h=>?_) (fun A outer s H vs Q E hr h=>?_)
 ·obtain⟨a,ns,rfl,_⟩:=h
  rfl
 ·obtain⟨a,ns,rfl,hS,hl,hT,q⟩:=h
  have hr1:Room 1 _:=hr.mono (by decide)
  have hr2:Room 2 _:=hr.mono (by decide)
  obtain⟨tt,htt,rtt⟩:∃t,PSs (ZF CX0 P w K mg base nNt "_law_net" (Zd sNt) f (.ref c) A outer s H E).nox ((Zj sNt).drop 2) t/\
    ∀(G:Hp)(n:Int)(L:Addr)(ts:List V),Same H G->G L=some (.lst ts)->Ties G n ts->2<=n->n<=9->ts.length<=14->
     t {nx:=fun _ H'=>Q .non H',rt:=Q} [some (.ref a),some (.int 8),some (.int n),some (.ref L),none,none,none,none,none] G:=by
   refine⟨_,Zb (Zm (i:=4) scNt.nd rfl (Or.inl rfl) (Zd2 (k:=1) (x:="_law_point") (P:=Pu) (qual:=Za7) Zkt Zka hbm rfl hC rfl rfl hr rfl hso
     (Z9 (Zcz rfl) rfl T.list ZhG (Ze (Z9 Zgl rfl T.range ZiP (Ze (pv 2) Za)) Za))
     (fun f' c' A' s' H' hr'=>Z0 FD hr' (Ze (pv 1) (Ze (Zq ZE (Zq ZE (pv 2) Zc) (pv 0)) Za)))))
    (Zb (Zm (i:=5) scNt.nd rfl (Or.inl rfl) (Jc Za))
    (Zb (ZZ PassesOwn.never rfl (ZM rfl T.range (Ze (Zn Zk rfl T.len Ye (Ze (pv 3) Za)) Za)) (Zt (i:=6) scNt.nd rfl (Or.inl rfl))
     (Zb (Zm (i:=7) scNt.nd rfl (Or.inl rfl) (Zu (Ze (Zo ZV (pv 4) (Zo Zl (Zo ZV (pv 3) (pv 6) (fun _ _=>rfl)) Zc (fun _ _=>rfl)) (fun _ _=>rfl)) (Ze (Zo ZV (pv 4) (Zo Zl (Zo ZV (pv 3) (pv 6) (fun _ _=>rfl)) Zc (fun _ _=>rfl)) (fun _ _=>rfl)) Za))))
     (Zb (Z3 (Zi ZR (Zq ZC (Z0 FD hr1 (Ze (pv 0) (Ze (Zq ZE (Zq ZE (pv 1) Zc) (pv 6)) Za))) Zc) Zc (Zp _)) (Zh (Zm (i:=7) scNt.nd rfl (Or.inl rfl) (Zu (Ze (Zo Zl (pv 7) Zc (fun _ _=>rfl)) (Ze (Zo Zl (pv 7) Zc (fun _ _=>rfl)) Za))))) Zr)
     (Zh (YD (Jo PySem.F.plainAttrs_list PySem.F.slot_list_append PySem.F.type_list_append Yu (pv 5) (Ze (pv 7) Za)))))))
    (Zb (Zm (i:=8) scNt.nd rfl (Or.inl rfl) (Zq ZC (Z0 FD hr1 (Ze (pv 0) (Ze (Zq ZE (pv 1) Zc) Za))) (Zn (ZeV rfl) rfl T.max ZiQ (Ze Zc (Ze (Zn Zk rfl T.len Ye (Ze (pv 5) Za)) Za)))))
    (Zh (Z2 (Zu (Ze (pv 2) (Ze (Z9 ZA rfl T.tuple Yh (Ze (Zq Jr (Yx J6 (pv 5) (YE (pv 8)) YF) (Yx J6 (pv 5) YF (YE (pv 8)))) Za)) Za)))))))),fun G n L ts sG hL hTs n2 n9 h14=>?_⟩
   refine⟨_,rfl,_,rfl,fun pr hpr=>⟨pr,n.toNat,rfl,(by rw[Zf,show((n.toNat:Nat):Int)=n by omega]),by omega,fun l hl1=>?_⟩⟩
   have hprl:pr≠l:=fun z=>by subst z;rw[Zf]at hl1;cases hl1
   have sm1:Same H (upd (upd G pr (.rng 0 n)) l (.lst ((Js n.toNat).map V.int))):=Same.trans sG ((Zs hpr).trans (Zs hl1))
   have sm2:Same G (upd (upd G pr (.rng 0 n)) l (.lst ((Js n.toNat).map V.int))):=(Zs hpr).trans (Zs hl1)
   refine⟨l,Js n.toNat,fun z=>draw ns (8+40+z),[.ref a,.int 8],rfl,SqL.of Zf,(by simp[Js];omega),hT.same sm1,rfl,fun H2 g2=>⟨fun m hm=>?_,fun D ns' hD hP hO=>?_⟩⟩
   ·obtain⟨i,hi,rfl⟩:=List.mem_map.mp hm
    have hi':=List.mem_range.mp hi
    refine⟨_,rfl,_,rfl,_,_,rfl,rfl,_,rfl,_,_,rfl,rfl,a,ns,_,rfl,g2.sqL (hT.same sm1) (sm1.seq hS),hl,by omega,by omega,rfl,rfl⟩
   obtain⟨lenN,rngN,ndN⟩:=Zd1 (n:=n.toNat) hP
   have G2:Gr Pu Zd4 Za7 H H2:=⟨fun b o e m=>g2.keep b o (sm1 b o e) m,g2.tab⟩
   have k2:Tk G H2:=(Same.tk sm2).trans (g2.tk (hT.same sm1))
   have hL2:H2 L=some (.lst ts):=g2.keep _ _ (sm2 _ _ hL) fun z=>by
    have h1:=sm2 _ _ hL
    rcases hT.same sm1 with t|⟨c',t,_⟩
    ·rw[<-z,h1]at t;cases t
    ·rw[<-z,h1]at t;cases t
   refine⟨(by show 0<=sizeLine;exact Nat.zero_le _),fun d hd=>?_⟩
   have hDd:D≠d:=fun z=>by subst z;rw[Zf]at hd;cases hd
   have hd2:H2 d=none:=by rw[Zg (Ne.symm hDd)]at hd;exact hd
   have hd0:H d=none:=G2.none hd2
   have G3:Gr Pu Zd4 Za7 H (upd (upd H2 D (.lst (ns'.map V.int))) d (.lst [])):=(G2.new hD).new hd
   have s3:Same H2 (upd (upd H2 D (.lst (ns'.map V.int))) d (.lst [])):=(Zs hD).trans (Zs hd)
   refine⟨_,rfl,L,_,rfl,.inl (SqL.of (s3 _ _ hL2)),_,rfl,by omega,by omega,?_⟩
   refine ZT (lo:=0) (n:=((ts.length:Nat):Int).toNat) (fun i σ H'=>∃(fs:List V)(v6 v7:Option V),σ=[some (.ref a),some (.int 8),some (.int n),some (.ref L),some (.ref D),some (.ref d),v6,v7,none]/\
    Gr Pu Zd4 Za7 H H'/\H' D=some (.lst (ns'.map V.int))/\H' L=some (.lst ts)/\Ties H' n ts/\H' d=some (.lst fs)/\fs.length=i/\Ties H' n fs)
    ⟨[],none,none,rfl,G3,by rw[Zg hDd,Zf],s3 _ _ hL2,hTs.tk (k2.trans (Same.tk s3)),Zf,rfl,(fun t ht=>nomatch ht)⟩ (fun i σ H4 hi⟨fs,v6,v7,e,g4,hD4,hL4,hT4,hd4,hn4,hF4⟩=>?_) (fun σ H4⟨fs,v6,v7,e,g4,hD4,hL4,hT4,hd4,hn4,hF4⟩=>?_)
   ·subst e
    rw[Int.toNat_natCast]at hi
    rw[Int.zero_add]
    obtain⟨t,ht⟩:∃t,ts[i]?=some t:=⟨_,List.getElem?_eq_getElem hi⟩
    obtain⟨qt,x,y,rfl,hqt,x0,x1,y0,y1,xy⟩:=hT4 t (List.mem_of_getElem? ht)
    have nm:∀z:Int,0<=z->z<n->∃m,L2.atI (ns'.map V.int) z=some (V.int m)/\ns'[z.toNat]?=some m/\0<=m/\m<n:=fun z z0 z1=>by
     have hlt:z.toNat<ns'.length:=by rw[lenN];omega
     have e0:z=((z.toNat:Nat):Int):=by omega
     have e1:=List.getElem?_eq_getElem hlt
     obtain⟨r1,r2⟩:=rngN _ (List.getElem_mem hlt)
     refine⟨ns'[z.toNat],?_,e1,r1,by omega⟩
     have e2:=ZH (xs:=ns'.map V.int) (j:=z.toNat) (v:=V.int ns'[z.toNat]) (by rw[List.getElem?_map,e1];rfl)
     rw[<-e0]at e2
     exact e2
    obtain⟨m1,i1,g1,m10,m11⟩:=nm x x0 x1
    obtain⟨m2,i2,gg2,m20,m21⟩:=nm y y0 y1
    have m12:m1≠m2:=fun z=>by
     subst z
     have:=ZjR ndN g1 gg2
     omega
    have hsz:fs.length<sizeLine:=Nat.lt_of_lt_of_le (show fs.length<1000 by omega) (Yq (by decide))
    have fin:∀(G5:Hp)(e:Addr)(u v:Int),Same H4 G5->G5 e=some (.tup [.int u,.int v])->0<=u->u<n->0<=v->v<n->u≠v->∃(fs':List V)(v6 v7:Option V),[some (V.ref a),some (.int 8),some (.int n),some (.ref L),some (.ref D),some (.ref d),some (.int (i:Int)),some (.ref e),none]=[some (.ref a),some (.int 8),some (.int n),some (.ref L),some (.ref D),some (.ref d),v6,v7,none]/\
      Gr Pu Zd4 Za7 H (upd G5 d (.lst (fs++[.ref e])))/\(upd G5 d (.lst (fs++[.ref e]))) D=some (.lst (ns'.map V.int))/\(upd G5 d (.lst (fs++[.ref e]))) L=some (.lst ts)/\Ties (upd G5 d (.lst (fs++[.ref e]))) n ts/\(upd G5 d (.lst (fs++[.ref e]))) d=some (.lst fs')/\fs'.length=i+1/\Ties (upd G5 d (.lst (fs++[.ref e]))) n fs':=fun G5 e u v s5 he u0 u1 v0 v1 uv=>by
     have hd5:=s5 _ _ hd4
     have kt:=ZhP (ys:=fs++[.ref e]) hd5
     have hLd:L≠d:=fun z=>by rw[z,hd2]at hL2;cases hL2
     refine⟨_,_,_,rfl,(g4.same s5).lst hd5 hd0,?_,?_,hT4.tk ((Same.tk s5).trans kt),Zf,by rw[List.length_append,hn4];rfl,fun t ht=>?_⟩
     ·rw[Zg hDd];exact s5 _ _ hD4
     ·rw[Zg hLd];exact s5 _ _ hL4
     ·rcases List.mem_append.mp ht with z|z
      ·exact(hF4 t z).tk ((Same.tk s5).trans kt)
      ·rw[List.mem_singleton.mp z]
       exact⟨e,u,v,rfl,kt _ _ he,u0,u1,v0,v1,uv⟩
    refine⟨_,rfl,_,rfl,_,rfl,L,_,_,_,rfl,rfl,SqL.of hL4,ZH ht,qt,_,_,_,rfl,rfl,SqT.of hqt,rfl,D,_,_,_,rfl,rfl,SqL.of hD4,i1,_,rfl,_,rfl,_,rfl,L,_,_,_,rfl,rfl,SqL.of hL4,ZH ht,qt,_,_,_,rfl,rfl,SqT.of hqt,rfl,D,_,_,_,rfl,rfl,SqL.of hD4,i2,rfl,fun e G5 s5 he=>?_⟩
    refine⟨_,rfl,_,rfl,_,_,rfl,rfl,_,rfl,_,_,rfl,rfl,a,ns,_,rfl,s5.seq (g4.sqL hT hS),hl,by omega,by omega,_,_,rfl,rfl,(by show(0:Int)<2;decide),rfl,_,rfl,?_⟩
    refine ZQ (fun _=>?_) (fun _=>?_)
    ·refine⟨_,rfl,e,_,_,_,rfl,rfl,SqT.of he,rfl,_,rfl,e,_,_,_,rfl,rfl,SqT.of he,rfl,rfl,fun e2 G6 s6 he2=>?_⟩
     exact⟨_,rfl,.inl ⟨rfl,_,SqL.of ((Same.trans s5 s6) _ _ hd4)⟩,_,rfl,d,fs,_,rfl,rfl,(Same.trans s5 s6) _ _ hd4,hsz,fin G6 e2 m2 m1 (Same.trans s5 s6) he2 m20 m21 m10 m11 (Ne.symm m12)⟩
    ·exact⟨_,rfl,.inl ⟨rfl,_,SqL.of (s5 _ _ hd4)⟩,_,rfl,d,fs,_,rfl,rfl,s5 _ _ hd4,hsz,fin G5 e m1 m2 s5 he m10 m11 m20 m21 m12⟩
   ·subst e
    rw[Int.toNat_natCast]at hn4
    have mx:(0:Int)<(if(fs.length:Int)>1 then(fs.length:Int)else 1):=by split<;>omega
    refine⟨_,rfl,_,rfl,_,_,rfl,rfl,a,ns,_,rfl,g4.sqL hT hS,hl,by omega,by omega,_,rfl,d,_,rfl,.inl (SqL.of hd4),_,_,rfl,_,_,rfl,rfl,mx,?_⟩
    have r0:=Ya (n:=draw ns (8+59)) mx
    obtain⟨rr,hrr⟩:∃rr,draw ns (8+59)%(if(fs.length:Int)>1 then(fs.length:Int)else 1)=rr:=⟨_,rfl⟩
    rw[hrr]at r0
    dsimp only[Jw]
    rw[hrr]
    refine⟨_,rfl,_,rfl,_,rfl,_,rfl,d,_,rfl,SqL.of hd4,fun l1 h1=>?_⟩
    have s1:=Zs (o:=HO.lst (Ys fs (some rr) none)) h1
    refine⟨_,rfl,_,rfl,_,rfl,d,_,rfl,SqL.of (s1 _ _ hd4),fun l2 h2=>?_⟩
    have s2:=Zs (o:=HO.lst (Ys fs none (some rr))) h2
    have c1:(Ys fs (some rr) none).length<=200:=Nat.le_trans (ZK _ _ _) (by omega)
    have c2:(Ys fs none (some rr)).length<=200:=Nat.le_trans (ZK _ _ _) (by omega)
    refine⟨l1,l2,_,_,rfl,rfl,s2 _ _ Zf,Zf,by omega,fun l3 G7 s7 h7=>⟨l3,_,rfl,.inl h7,fun l4 G8 s8 h8=>⟨rfl,fun p G9 s9 h9=>?_⟩⟩⟩
    have s49:Same H4 G9:=Same.trans s1 (Same.trans s2 (Same.trans s7 (Same.trans s8 s9)))
    have hlc:=Zhs fs rr r0
    obtain⟨es,NZ⟩:=ZaI (H:=G9) (p:=p) (n:=n) h9 (s9 _ _ h8) (by omega) (fun t ht=>(hF4 t (Zhr ht)).tk (Same.tk s49)) (by omega) (by omega) (Int.le_refl _)
    have:=NZ.len
    exact q G9 p _ l4 _ es (g4.same s49) NZ (by omega) (by omega) (by omega)
  refine⟨_,Zb (JH (Z0 FP hr2 (Ze (pv 0) (Ze (pv 1) (Ze (Zq ZC (Z0 FD hr1 (Ze (pv 0) (Ze Zc Za))) Zc) Za)))) (Zil rfl (Yp (Zt (i:=2) scNt.nd rfl (Or.inl rfl)) (Yp (Zt (i:=3) scNt.nd rfl (Or.inl rfl)) JU))))
   (Zb (Z3 (Zi ZR (Zq ZC (Z0 FD hr1 (Ze (pv 0) (Ze Zc Za))) Zc) Zc (Zp _)) (Zh (Zm (i:=3) scNt.nd rfl (Or.inl rfl) (Yb Za))) Zr) htt),?_⟩
  refine⟨_,rfl,_,rfl,_,rfl,a,ns,_,rfl,hS,hl,by decide,by decide,_,_,rfl,rfl,(by show(0:Int)<5;decide),a,ns,_,rfl,hS,hl,fun G r n ts sG hP=>?_⟩
  obtain⟨L,hr0,hL,hTs,n2,n9,h14⟩:=hP
  refine⟨r,_,rfl,SqL.of hr0,rfl,_,_,rfl,_,_,rfl,rfl,?_⟩
  refine⟨_,rfl,a,ns,_,rfl,sG.seq hS,hl,by decide,by decide,_,_,rfl,rfl,(by show(0:Int)<6;decide),rfl,_,rfl,?_⟩
  refine ZQ (fun _=>?_) (fun _=>?_)
  ·exact⟨rfl,fun L' G1 s1 h1=>rtt G1 n L' [] (Same.trans sG s1) h1 ((fun t ht=>nomatch ht)) n2 n9 (by decide)⟩
  ·exact rtt G n L ts sG hL hTs n2 n9 h14
end
end My
set_option maxHeartbeats 2000000
namespace My
open PySem L2 Cs
theorem FewAt.keep{H H':Hp}{es:List (Nat×Nat)}{n:Nat}{M:Int}{x N:Nat}{o:Option (List Nat)}{k:Nat}{r:Tl}{v:V}(h:FewAt H es n M x N o k r v)(s:Yz H H'):FewAt H' es n M x N o k r v:=by
 obtain⟨u,tb,pp,e,h1,h2,h3⟩:=h
 refine⟨u,tb,pp,e,s _ _ h1,s _ _ h2,?_⟩
 rcases h3 with⟨a,b,c⟩|⟨a,b⟩
 ·exact .inl ⟨a,b.tk s,c.tk s⟩
 ·exact .inr ⟨a,ResAt.keep b s⟩
def Tld(H:Hp)(es:List (Nat×Nat))(n:Nat)(M:Int)(x N:Nat)(o:Option (List Nat))(mo:Nat)(v:V):Prop:=
 (∃k,N<=k/\Cas es x mo N k/\mo<nm es x k/\v= .int (mo:Int))\/(∃k r,N<=k/\Cas es x mo N k/\nm es x k<=mo/\gx es x k=some r/\FewAt H es n M x N o k r v)
theorem Tld.keep{H H':Hp}{es:List (Nat×Nat)}{n:Nat}{M:Int}{x N:Nat}{o:Option (List Nat)}{mo:Nat}{v:V}(h:Tld H es n M x N o mo v)(s:Yz H H'):Tld H' es n M x N o mo v:=by
 rcases h with h|⟨k,r,a,b,c,d,e⟩
 ·exact .inl h
 ·exact .inr ⟨k,r,a,b,c,d,e.keep s⟩
theorem ZcW{es:List (Nat×Nat)}{x N m1 m2 k1 k2:Nat}{r1 r2:Tl}(h1:N<=k1)(c1:Cas es x m1 N k1)(g1:gx es x k1=some r1)(h2:N<=k2)(c2:Cas es x m2 N k2)(g2:gx es x k2=some r2):k1=k2:=by
 rcases Nat.lt_trichotomy k1 k2 with z|z|z
 ·have:=(c2 k1 h1 z).2
  rw[g1]at this
  cases this
 ·exact z
 ·have:=(c1 k2 h2 z).2
  rw[g2]at this
  cases this
theorem Zf8{K:PySem.W.Frag}{H:Hp}{es:List (Nat×Nat)}{n:Nat}{M:Int}{o:Option (List Nat)}{v v':V}(h:PapO H es n M o v)(h':PapO H es n M o v'):Sam K H 2 v v':=by
 rcases h with⟨e,u1,y,rfl,hu,hy⟩|⟨u1,t1,l,e,rfl,hu,ht⟩<;>rcases h' with⟨e',u2,y',rfl,hu',hy'⟩|⟨u2,t2,l',e',rfl,hu',ht'⟩
 ·rw[hy]at hy'
  cases hy'
  refine Sam.tup hu hu' rfl fun i a b h1 h2=>?_
  match i,h1,h2 with
  |0,h1,h2=>cases h1;cases h2;exact Sam.atom trivial
  |1,h1,h2=>cases h1;cases h2;exact Sam.atom trivial
 ·rw[e]at e';cases e'
 ·rw[e]at e';cases e'
 ·rw[e]at e'
  cases e'
  refine Sam.tup hu hu' rfl fun i a b h1 h2=>?_
  match i,h1,h2 with
  |0,h1,h2=>cases h1;cases h2;exact Sam.atom trivial
  |1,h1,h2=>
   cases h1;cases h2
   refine Sam.tup ht ht' rfl fun i a b h1 h2=>?_
   rw[h1]at h2
   cases h2
   unfold nl at h1
   rw[List.getElem?_map]at h1
   cases q:l[i]? with
   |none=>rw[q]at h1;cases h1
   |some x=>rw[q]at h1;cases h1;exact Sam.atom trivial
theorem Zhm{K:PySem.W.Frag}{H:Hp}{es:List (Nat×Nat)}{n:Nat}{M:Int}{x N:Nat}{o:Option (List Nat)}{k:Nat}{r:Tl}{v v':V}(h:FewAt H es n M x N o k r v)(h':FewAt H es n M x N o k r v'):Sam K H (3*es.length+3) v v':=by
 obtain⟨u,tb,pp,rfl,h1,h2,h3⟩:=h
 obtain⟨u',tb',pp',rfl,h1',h2',h3'⟩:=h'
 refine Sam.tup h1 h1' rfl fun i a b g1 g2=>?_
 match i,g1,g2 with
 |0,g1,g2=>cases g1;cases g2;exact Sam.atom trivial
 |1,g1,g2=>
  cases g1;cases g2
  refine Sam.mono (d:=1) (Sam.tup h2 h2' rfl fun i a b g1 g2=>?_) (by omega)
  obtain⟨e1,e2⟩:=Zcc g1 g2
  subst e1
  exact Sam.atom e2
 |2,g1,g2=>
  cases g1;cases g2
  rcases h3 with⟨a1,a2,_⟩|⟨a1,a2⟩<;>rcases h3' with⟨b1,b2,_⟩|⟨b1,b2⟩
  ·exact Sam.mono (Zf8 a2 b2) (by omega)
  ·omega
  ·omega
  ·exact ZdR a2 b2
theorem Gr.tabO{P P':Addr}{pos pos':Pos}{qual qual':Str}{H H':Hp}(g:Gr P pos qual H H')(t:TabI P pos qual H)(t':TabI P' pos' qual' H)(hne:P'≠P):TabI P' pos' qual' H':=by
 rcases t' with h|⟨c',h1,h2⟩
 ·exact .inl (g.keep _ _ h hne)
 ·refine .inr ⟨c',g.keep _ _ h1 hne,g.keep _ _ h2 fun z=>?_⟩
  obtain⟨ps,hp⟩:=TabI.tbl t (show H P=some _ by rw[<-z];exact h2)
  cases hp
section
variable{P:Program}{w:World}{K:PySem.W.Frag}{mg:Str->Option Value}{base:Heap}{cT Pt Pu:Addr}
theorem Zfi{H:Hp}{Q:VK}{E:XK}{u qa:Addr}{n:Nat}{ts:List V}{es:List (Nat×Nat)}{mo x N:Nat}{M:Int}{o:Option (List Nat)}(Nz:NetZ H u n qa ts es)(h9:n<=9)(h40:es.length<=40)(hM:IsMax (dl es n) M)(h0:0<M)(hx:(ZP es M n)[0]?=some x)(hb:YO es n M (parts n).length=((N:Int),o))(hT:Y8 Pt H)
  (q:∀H' v,GrL Pt H H'->Tld H' es n M x N o mo v->Q v H'):Zcf cT Pt [.ref u,.int (mo:Int)] H Q E:=by
 refine⟨u,mo,rfl,.inl ⟨u,n,qa,ts,es,mo,M,rfl,Nz,h9,hM,hT,fun z=>absurd z (by omega),fun _ x' N' o' hx' hb'=>?_⟩⟩
 rw[hx]at hx'
 cases hx'
 rw[hb]at hb'
 obtain⟨e1,rfl⟩:=Prod.mk.inj hb'
 obtain rfl:N=N':=by omega
 exact⟨fun z=>absurd z (by omega),fun _=>⟨fun k r a b c d H' v g f=>q H' v g (.inr ⟨k,r,a,b,c,d,f⟩),fun k a b c H' dx g hdx=>⟨dx,mo,rfl,rfl,Zf,fun G' s'=>q G' _ ((Gr.new g hdx).same s') (.inl ⟨k,a,b,c,rfl⟩)⟩⟩⟩
abbrev ZaC:Stmt:=top 40
abbrev ZjW:List Str:=["_law_script","_law_draws_here","_law_net_here","_law_found","_law_less","_law_other"]
theorem scLaw:Zx ZjW ["_law_script"] (Zd ZaC):=⟨rfl,rfl,rfl,by decide+kernel,rfl,by decide+kernel,by decide+kernel⟩
theorem Zhc{f:Addr}{cdv:Value}{A:Around}{outer:List Env}{s:Shared}{H:Hp}{E:XK}{Q:VK}(T:Bi mg)(hr:Room 49 (A.deeper (PyProof.Rows.envOfC "law" (Zd ZaC) s.heap.objs.size f cdv)))(FW:FnE P w K mg base "_law_whole" ["_law_found"] 1 (ZaT K))(FG:FnE P w K mg base "_law_good" pNa 2 spGo)
  (FP:FnE P w K mg base "_law_paper_fits" pPf 43 spPf)(FY:FnE P w K mg base "_law_by_searches" pBy 48 (Zg7 Pt))(hq:∀H',Q (.bl true) H'):
  ∃t,PSs (ZF CX0 P w K mg base ZjW "law" (Zd ZaC) f cdv A outer s H E).nox ((Zj ZaC).drop 7) t/\
   (∀(G:Hp)(v0 v1:Option V)(p:Addr)(n:Nat)(qa:Addr)(ts:List V)(es:List (Nat×Nat))(w0 t0:Addr)(lv ov:V),NetZ G p n qa ts es->es.length=0->G w0=some (.tup [.int 0,.ref t0,.non])->G t0=some (.tup [])->t {nx:=fun _ H'=>Q .non H',rt:=Q} [v0,v1,some (.ref p),some (.ref w0),some lv,some ov] G)/\
   (∀(G:Hp)(v0 v1:Option V)(p:Addr)(n:Nat)(qa:Addr)(ts:List V)(es:List (Nat×Nat))(M:Int)(x N less:Nat)(o:Option (List Nat))(fv ov:V),NetZ G p n qa ts es->n<=9->es.length<=14->0<es.length->IsMax (dl es n) M->0<M->(ZP es M n)[0]?=some x->YO es n M (parts n).length=((N:Int),o)->Y8 Pt G->less<=40->Tld G es n M x N o 300 fv->Tld G es n M x N o less ov->t {nx:=fun _ H'=>Q .non H',rt:=Q} [v0,v1,some (.ref p),some fv,some (.int (less:Int)),some ov] G):=by
 have hr1:Room 1 _:=hr.mono (by omega)
 have hr2:Room 2 _:=hr.mono (by omega)
 have hr43:Room 43 _:=hr.mono (by omega)
 have hr48:Room 48 _:=hr.mono (by omega)
 refine⟨_,Zb (Z3 (ZS (Z0 FW hr1 (Ze (pv 3) Za))) (Zh (Z2 (Jq (Ym ZR (pv 3) Zc (Zp _)) (JI (Z0 FW hr1 (Ze (pv 5) Za)))))) Zr)
  (Zb (Z3 (PW.pt (pw_or (ZY (ZS (Zn ZL rfl T.isi Za3 (Ze (pv 3) (Ze (Yy (v:= .ty "tuple") rfl T.tuple Yh rfl) Za))))) (pw_or (Zi YI (Zn Zk rfl T.len Ye (Ze (pv 3) Za)) Zc (Zp _)) (pw_or1 (ZY (ZS (Z0 FW hr1 (Ze (Zo Zl (pv 3) Zc (fun _ _=>rfl)) Za)))))))) Zw Zr)
  (Zb (Z3 (ZY (ZS (Z0 FG hr2 (Ze (pv 2) (Ze (Zo Zl (pv 3) Zc (fun _ _=>rfl)) (Ze (Zo Zl (pv 3) Zc (fun _ _=>rfl)) Za)))))) Zw Zr)
  (Zb (Z3 (Zi ZR (Zn Zk rfl T.len Ye (Ze (Zo Zl (pv 2) Zc (fun _ _=>rfl)) Za)) Zc (Zp _)) (Zh (Z2 (Jq (Ym ZR (Zo Zl (pv 3) Zc (fun _ _=>rfl)) Zc (Zp _)) (JI (Ym JM (Zo Zl (pv 3) Zc (fun _ _=>rfl)) Yj (Zp _)))))) Zr)
  (Zh (Z2 (Jq (Z0 FP hr43 (Ze (pv 2) (Ze (Zo Zl (pv 3) Zc (fun _ _=>rfl)) (Ze (Zo Zl (pv 3) Zc (fun _ _=>rfl)) Za)))) (JI (Z0 FY hr48 (Ze (pv 2) (Ze (pv 3) (Ze (pv 5) (Ze (pv 4) Za))))))))))))
  ,fun G v0 v1 p n qa ts es w0 t0 lv ov N he hw0 ht0=>?_,fun G v0 v1 p n qa ts es M x NN less o fv ov N n9 h14 he hM hM0 hx hbo hT hless hf ho=>?_⟩
 ·obtain rfl:es=[]:=List.eq_nil_of_length_eq_zero he
  have hts:ts.length=0:=N.len
  refine⟨_,rfl,_,rfl,.inr ⟨_,.tup hw0,kit K "tuple" "int" false (by decide+kernel),_,rfl,Zy ?_⟩⟩
  refine⟨_,rfl,_,_,_,_,rfl,.tup hw0,kit K "tuple" "tuple" true (by decide+kernel),_,rfl,Zy ?_⟩
  refine⟨_,rfl,w0,_,rfl,.inr (SqT.of hw0),rfl,_,rfl,Zy ?_⟩
  refine⟨_,rfl,w0,_,_,_,rfl,rfl,SqT.of hw0,rfl,_,rfl,.inl ⟨_,rfl,_,rfl,Zy ?_⟩⟩
  refine⟨_,rfl,_,rfl,w0,_,_,_,rfl,rfl,SqT.of hw0,rfl,_,rfl,w0,_,_,_,rfl,rfl,SqT.of hw0,rfl,p,t0,n,qa,ts,[],[],0,[],rfl,N,ht0,by decide,ZcS [] [] 0,(fun k hk=>absurd hk (Nat.not_lt_zero _)),fun G1 s1=>⟨_,rfl,Zy ?_⟩⟩
  have hw1:=s1 _ _ hw0
  have N1:=N.same s1
  refine⟨_,rfl,p,_,_,_,rfl,rfl,SqT.of N1.e1,rfl,qa,_,rfl,.inr (SqT.of N1.e2),rfl,_,rfl,?_⟩
  refine ZQ (fun _=>?_) (fun z=>absurd (decide_eq_true (by rw[hts];rfl)) z)
  refine⟨_,rfl,w0,_,_,_,rfl,rfl,SqT.of hw1,rfl,rfl,_,rfl,?_⟩
  exact Yr ⟨_,rfl,w0,_,_,_,rfl,rfl,SqT.of hw1,rfl,rfl,hq _⟩
 ·rcases hf with⟨k,hNk,hc,hnm,rfl⟩|⟨k,r,hNk,hc,hnm,hg,hF⟩
  ·refine⟨_,rfl,_,rfl,.inl ⟨_,rfl,_,rfl,Yr ?_⟩⟩
   refine⟨_,rfl,rfl,_,rfl,Yr ?_⟩
   rcases ho with⟨k2,_,_,_,rfl⟩|⟨k2,r2,hNk2,hc2,hnm2,hg2,hF2⟩
   ·exact⟨_,rfl,_,rfl,.inl ⟨_,rfl,hq _⟩⟩
   ·exfalso
    rcases Nat.lt_or_ge k k2 with z|z
    ·have:=(hc2 k hNk z).1
     omega
    ·rcases Nat.lt_or_ge k2 k with y|y
     ·have:=(hc k2 hNk2 y).2
      rw[hg2]at this
      cases this
     ·obtain rfl:k=k2:=by omega
      omega
  ·have hF0:=hF
   obtain⟨u,tb,pp,rfl,hu,htb,hpp⟩:=hF
   have hMle:=(ZaJ hM).2
   have hk900:k<=900:=by
    rcases hpp with⟨e1,_,e3⟩|⟨e1,_⟩
    ·have:=e3.le n9 hMle
     omega
    ·have:=Zem (hc (k-1) (by omega) (by omega)).2
     omega
   refine⟨_,rfl,_,rfl,.inr ⟨_,.tup hu,kit K "tuple" "int" false (by decide+kernel),_,rfl,Zy ?_⟩⟩
   refine⟨_,rfl,_,_,_,_,rfl,.tup hu,kit K "tuple" "tuple" true (by decide+kernel),_,rfl,Zy ?_⟩
   refine⟨_,rfl,u,_,rfl,.inr (SqT.of hu),rfl,_,rfl,Zy ?_⟩
   refine⟨_,rfl,u,_,_,_,rfl,rfl,SqT.of hu,rfl,_,rfl,.inl ⟨_,rfl,_,rfl,Zy ?_⟩⟩
   obtain⟨gd1,gd2⟩:=Zhd (es:=es) (bs:=ZW es x k) (m:=k) es.length _ r (by rw[Jz,List.length_range];exact Nat.le_refl _) (ZcS es (ZW es x k) k) hg
   refine⟨_,rfl,_,rfl,u,_,_,_,rfl,rfl,SqT.of hu,rfl,_,rfl,u,_,_,_,rfl,rfl,SqT.of hu,rfl,p,tb,n,qa,ts,es,ZW es x k,k,r,rfl,N,htb,by omega,gd1,gd2,fun G1 s1=>⟨_,rfl,Zy ?_⟩⟩
   have hu1:=s1 _ _ hu
   have N1:=N.same s1
   have hlen:=N.len
   refine⟨_,rfl,p,_,_,_,rfl,rfl,SqT.of N1.e1,rfl,qa,_,rfl,.inr (SqT.of N1.e2),rfl,_,rfl,?_⟩
   refine ZQ (fun z=>absurd (V.int.inj (of_decide_eq_true z)) (by omega)) (fun _=>?_)
   refine⟨_,rfl,_,rfl,u,_,_,_,rfl,rfl,SqT.of hu1,rfl,_,rfl,u,_,_,_,rfl,rfl,SqT.of hu1,rfl,p,n,qa,ts,es,M,x,NN,k,o,pp,rfl,N1,n9,by omega,hM,hM0,hx,hbo,?_,fun G2 s2=>⟨_,rfl,Yr ?_⟩⟩
   ·rcases hpp with⟨e1,_,e3⟩|⟨e1,e2⟩
    ·exact .inl ⟨e1,e3.same s1⟩
    ·exact .inr ⟨e1,hk900,(hc (k-1) (by omega) (by omega)).2,ResAt.keep e2 (Same.keepT s1)⟩
   ·have s02:=Same.trans s1 s2
    refine⟨_,rfl,_,rfl,_,rfl,_,rfl,p,n,qa,ts,es,M,x,NN,k,less,o,r,u,tb,pp,ov,rfl,N.same s02,n9,by omega,hM,hM0,hx,hbo,hNk,hk900,s02 _ _ hu,s02 _ _ htb,fun z=>?_,hc,hnm,hg,hT.same s02,?_,fun G3 _=>hq _⟩
    ·rcases hpp with⟨e1,_⟩|⟨_,e2⟩
     ·omega
     ·exact ResAt.keep e2 (Same.keepT s02)
    ·rcases ho with⟨k2,hNk2,hc2,hnm2,rfl⟩|⟨k2,r2,hNk2,hc2,hnm2,hg2,hF2⟩
     ·refine .inl ⟨⟨_,rfl⟩,k2,hNk2,?_,hnm2⟩
      rcases Nat.lt_or_ge k k2 with z|z
      ·have:=(hc2 k hNk z).2
       rw[hg]at this
       cases this
      ·exact z
     ·obtain rfl:=ZcW hNk hc hg hNk2 hc2 hg2
      obtain⟨u2,tb2,pp2,rfl,hu2,_⟩:=hF2
      refine .inr ⟨⟨u2,_,rfl,s02 _ _ hu2⟩,fun j h1 h2=>?_⟩
      by_cases z:j=k
      ·rw[z];exact hnm2
      ·exact(hc2 j h1 (by omega)).1
end
end My
set_option maxHeartbeats 2000000
namespace My
open PySem L2 Cs
section
variable{P:Program}{w:World}{K:PySem.W.Frag}{mg:Str->Option Value}{base:Heap}{cT Pt Pu:Addr}
def ZdQ(K:PySem.W.Frag)(Pt Pu:Addr):Sp:=fun vs H Q _=>∃(a:Addr)(ns:List Int),vs=[.ref a]/\SqL K H a (ns.map V.int)/\ns.length<=63/\Y8 Pt H/\TabI Pu Zd4 Za7 H/\∀H',Q (.bl true) H'
theorem Zis{f:Addr}{fd:FuncData}(F:Fun K "law" "law" ZaC f fd)(T:Bi mg)(hne:Pt≠Pu)(FDs:FnE P w K mg base "_law_draws" ["_law_script","_law_many"] 2 (ZhZ K))(FD:FnE P w K mg base "_law_draw" ["_law_draws_here","_law_k"] 1 (Jn K))(FN:FnE P w K mg base "_law_net" ["_law_draws_here","_law_at"] 5 (ZhY K Pu))
  (FT:FnE P w K mg base "_law_told" ["_law_net_here","_law_at_most"] 48 (Zcf cT Pt))(FB:FnE P w K mg base "_law_bounds_kept" pBk 49 (Zia K Pt))(FW:FnE P w K mg base "_law_whole" ["_law_found"] 1 (ZaT K))(FG:FnE P w K mg base "_law_good" pNa 2 spGo)
  (FP:FnE P w K mg base "_law_paper_fits" pPf 43 spPf)(FY:FnE P w K mg base "_law_by_searches" pBy 48 (Zg7 Pt)):FnOk P w K mg base CX0 50 f fd ["_law_script"] (ZdQ K Pt Pu):=by
 refine F.ok (k:=49) scLaw (fun vs H Q E h=>?_) (fun cdv A outer s H vs Q E hr h=>?_)
 ·obtain⟨a,ns,rfl,_⟩:=h
  rfl
 ·obtain⟨a,ns,rfl,hS,hl,hT,hU,hq⟩:=h
  have hr1:Room 1 _:=hr.mono (by omega)
  have hr2:Room 2 _:=hr.mono (by omega)
  have hr5:Room 5 _:=hr.mono (by omega)
  have hr48:Room 48 _:=hr.mono (by omega)
  obtain⟨te,hte,rA,rB⟩:=Zhc (H:=H) (E:=E) (Q:=Q) (outer:=outer) T hr FW FG FP FY hq
  refine⟨_,Zb (Zm (i:=1) scLaw.nd rfl (Or.inl rfl) (Z0 FDs hr2 (Ze (pv 0) (Ze Zc Za))))
   (Zb (Zm (i:=2) scLaw.nd rfl (Or.inl rfl) (Z0 FN hr5 (Ze (pv 1) (Ze Zc Za))))
   (Zb (Zm (i:=3) scLaw.nd rfl (Or.inl rfl) (Z0 FT hr48 (Ze (pv 2) (Ze Zc Za))))
   (Zb (Zm (i:=4) scLaw.nd rfl (Or.inl rfl) (Zq ZE Zc (Zq ZC (Z0 FD hr1 (Ze (pv 1) (Ze Zc Za))) Zc)))
   (Zb (Zm (i:=5) scLaw.nd rfl (Or.inl rfl) (Z0 FT hr48 (Ze (pv 2) (Ze (pv 4) Za))))
   (Zb (Z3 (ZY (ZS (Z0 FB hr (Ze (pv 1) (Ze (pv 2) Za))))) Zw Zr)
   (Zb (Z3 (ZS (Z0 FW hr1 (Ze (pv 5) Za))) (Zh (Z3 (Zi YI (pv 5) (pv 4) (Zp _)) Zw Zr)) (Zh (Z3 (Zi (Zcn hr) (pv 5) (pv 3) (Zp _)) Zw Zr)))
   hte)))))),?_⟩
  refine⟨_,rfl,a,ns,rfl,hS,hl,fun H1 d ds s1 hd hDr=>?_⟩
  have hT1:Y8 Pt H1:=hT.same s1
  have hU1:=hU.same s1
  refine⟨_,rfl,d,ds,rfl,SqL.of hd,hDr,hU1,fun H2 p n qa ts es g2 N n2 n9 h14=>?_⟩
  have hT2:Y8 Pt H2:=Gr.tabO g2 hU1 hT1 hne
  have hd2:SqL K H2 d (ds.map V.int):=g2.sqL hU1 (SqL.of hd)
  have c0:=Ya (n:=draw ds 4) (p:=40) (by decide)
  have c1:=Yk (n:=draw ds 4) (p:=40) (by decide)
  obtain⟨less,hless⟩:∃m:Nat,1+draw ds 4%40=(m:Int):=⟨(1+draw ds 4%40).toNat,by omega⟩
  have hl0:1<=less:=by omega
  have hl1:less<=40:=by omega
  rcases Nat.eq_zero_or_pos es.length with he|he
  ·refine⟨_,rfl,Zdm (E:=fun _ _ _=>False) (mo:=300) N n9 he hT2 fun H3 w0 t0 s3 hw0 ht0=>?_⟩
   have hd3:=s3.seq hd2
   refine⟨_,rfl,d,ds,4,rfl,hd3,hDr,by decide,by decide,_,_,rfl,rfl,(by show(0:Int)<40;decide),_,_,rfl,rfl,?_⟩
   dsimp only[Jw]
   rw[hless]
   have hT3:Y8 Pt H3:=hT2.same s3
   refine⟨_,rfl,_,rfl,Zdm (E:=fun _ _ _=>False) (mo:=less) (N.same s3) n9 he hT3 fun H4 w1 t1 s4 hw1 ht1=>?_⟩
   have s24:=Same.trans s3 s4
   have hT4:Y8 Pt H4:=hT3.same s4
   refine⟨_,rfl,_,rfl,d,ds,p,n,qa,ts,es,rfl,s24.seq hd2,hDr,N.same s24,n2,n9,hT4,fun H5 g5=>⟨_,rfl,Zy ?_⟩⟩
   have k5:=GrL.keepT g5 hT4
   have hw1':=k5 _ _ hw1
   have ht1':=k5 _ _ ht1
   have hw0':=k5 _ _ (s4 _ _ hw0)
   have ht0':=k5 _ _ (s4 _ _ ht0)
   refine⟨_,rfl,_,rfl,.inr ⟨_,.tup hw1',kit K "tuple" "int" false (by decide+kernel),_,rfl,Zy ?_⟩⟩
   refine⟨_,rfl,_,rfl,w1,w0,2,rfl,rfl,by decide,?_,_,rfl,Zy ?_⟩
   ·refine Sam.tup hw1' hw0' rfl fun i u v hu hv=>?_
    match i,hu,hv with
    |0,hu,hv=>cases hu;cases hv;exact Sam.atom trivial
    |1,hu,hv=>cases hu;cases hv;exact Sam.tup ht1' ht0' rfl fun i u v hu hv=>by cases hu
    |2,hu,hv=>cases hu;cases hv;exact Sam.atom trivial
   ·exact rA H5 _ _ p n qa ts es w0 t0 _ _ (NetZ.keepT (N.same s24) k5) he hw0' ht0'
  ·obtain⟨M,hM⟩:=Jv (dl es n)
   have hM0:=Zcq N.ok hM he
   obtain⟨x,hx⟩:=ZbR hM (by omega)
   obtain⟨Nz,o,hbz⟩:∃Nz o,YO es n M (parts n).length=(Nz,o):=⟨_,_,rfl⟩
   obtain⟨NN,rfl⟩:∃NN:Nat,Nz=(NN:Int):=⟨Nz.toNat,by
    have:=Zde (es:=es) (n:=n) (M:=M) (parts n).length
    rw[hbz]at this
    have h2:M<=Nz:=this
    omega⟩
   refine⟨_,rfl,Zfi (E:=fun _ _ _=>False) (mo:=300) N n9 (by omega) hM hM0 hx hbz hT2 fun H3 fv g3 hf=>?_⟩
   have k3:=GrL.keepT g3 hT2
   have hd3:SqL K H3 d (ds.map V.int):=Gr.sqL g3 hT2 hd2
   refine⟨_,rfl,d,ds,4,rfl,hd3,hDr,by decide,by decide,_,_,rfl,rfl,(by show(0:Int)<40;decide),_,_,rfl,rfl,?_⟩
   dsimp only[Jw]
   rw[hless]
   have N3:=NetZ.keepT N k3
   refine⟨_,rfl,_,rfl,Zfi (E:=fun _ _ _=>False) (mo:=less) N3 n9 (by omega) hM hM0 hx hbz g3.tab fun H4 ov g4 ho=>?_⟩
   have k4:=GrL.keepT g4 g3.tab
   have N4:=NetZ.keepT N3 k4
   refine⟨_,rfl,_,rfl,d,ds,p,n,qa,ts,es,rfl,Gr.sqL g4 g3.tab hd3,hDr,N4,n2,n9,g4.tab,fun H5 g5=>⟨_,rfl,Zy ?_⟩⟩
   have k5:=GrL.keepT g5 g4.tab
   have N5:=NetZ.keepT N4 k5
   have hf5:=(hf.keep k4).keep k5
   have ho5:=ho.keep k5
   have fin:=fun v0 v1=>rB H5 v0 v1 p n qa ts es M x NN less o fv ov N5 n9 h14 he hM hM0 hx hbz g5.tab hl1 hf5 ho5
   rcases ho5 with⟨k2,hNk2,hc2,hnm2,rfl⟩|⟨k2,r2,hNk2,hc2,hnm2,hg2,hF2⟩
   ·refine⟨_,rfl,_,rfl,.inl ⟨_,rfl,_,rfl,Yr ?_⟩⟩
    refine⟨_,rfl,_,rfl,rfl,_,rfl,?_⟩
    rw[decide_eq_true rfl]
    exact Zy (fin _ _)
   ·rcases hf5 with⟨k,hNk,hc,hnm,rfl⟩|⟨k,r,hNk,hc,hnm,hg,hF⟩
    ·exfalso
     rcases Nat.lt_or_ge k k2 with z|z
     ·have:=(hc2 k hNk z).1
      omega
     ·rcases Nat.lt_or_ge k2 k with y|y
      ·have:=(hc k2 hNk2 y).2
       rw[hg2]at this
       cases this
      ·obtain rfl:k=k2:=by omega
       omega
    ·obtain rfl:=ZcW hNk hc hg hNk2 hc2 hg2
     rw[hg]at hg2
     cases hg2
     have hsam:=Zhm (K:=K) hF2 hF
     obtain⟨u2,tb2,pp2,rfl,hu2,_⟩:=hF2
     obtain⟨u,tb,pp,rfl,hu,_⟩:=hF
     refine⟨_,rfl,_,rfl,.inr ⟨_,.tup hu2,kit K "tuple" "int" false (by decide+kernel),_,rfl,Zy ?_⟩⟩
     exact⟨_,rfl,_,rfl,u2,u,_,rfl,rfl,by omega,hsam,_,rfl,Zy (fin _ _)⟩
end
end My
namespace My
open PySem L2
theorem ZiE{K:PySem.W.Frag}{P:Addr}(h:(K.any fun p=>PySem.W.codeHdIn K p.1 P)=true):∃c,PySem.W.codeHdIn K c P=true:=let⟨p,_,e⟩:=List.any_eq_true.mp h;⟨p.1,e⟩
theorem all_mk{l:PySem.W.OpenLaw}{w:World}{K:PySem.W.Frag}{h:Heap}{mg:Str->Option Value}{fa Pt Pu cL c16 f1 f2 f3 f4 f5 f6 f7 f8 f9 f10 f11 f12 f13 f14 f15 f16 f17 f18 f19 f20 f21 f22 f23 f24 f25 f26 f27 f28:Addr}(X:K.In h)(G:h.Ns mainGlobals mg)(hfa:mg "law"=some (.ref fa))
  {tA tB tD tE:Tok}{d9 d11:Addr}{oD oE:Value}{odD odE:Option Addr}{nD nE:Nat}{slD slE:Array (Option Value)}{cS cT cTE cM1 cM2 cM3 fI fR fL fX:Addr}{odI anI odR anR odL anL odX anX:Option Addr}{slI slR slL slX:Array (Option Value)}{ocI kVI dcI pmI cdI ctI ocR kVR dcR pmR cdR ctR ocL kVL dcL pmL ctL ocX kVX dcX pmX cdX ctX:Value}{od1 an1 od2 an2 od3 an3 od4 an4 od5 an5 od6 an6 od7 an7 od8 an8 od9 an9 od10 an10 od11 an11 od12 an12 od13 an13 od14 an14 od15 an15 od16 an16 od17 an17 od18 an18 od19 an19 od20 an20 od21 an21 od22 an22 od23 an23 od24 an24 od25 an25 od26 an26 od27 an27 od28 an28:Option Addr}{sl1 sl2 sl3 sl4 sl5 sl6 sl7 sl8 sl9 sl10 sl11 sl12 sl13 sl14 sl15 sl16 sl17 sl18 sl19 sl20 sl21 sl22 sl23 sl24 sl25 sl26 sl27 sl28:Array (Option Value)}{oc1 kV1 dc1 pm1 cd1 ct1 oc2 kV2 dc2 pm2 cd2 ct2 oc3 kV3 dc3 pm3 cd3 ct3 oc4 kV4 dc4 pm4 cd4 ct4 oc5 kV5 dc5 pm5 cd5 ct5 oc6 kV6 dc6 pm6 cd6 ct6 oc7 kV7 dc7 pm7 cd7 ct7 oc8 kV8 dc8 pm8 cd8 ct8 oc9 kV9 dc9 pm9 cd9 ct9 oc10 kV10 dc10 pm10 cd10 ct10 oc11 kV11 dc11 pm11 cd11 ct11 oc12 kV12 dc12 pm12 cd12 ct12 oc13 kV13 dc13 pm13 cd13 ct13 oc14 kV14 dc14 pm14 cd14 ct14 oc15 kV15 dc15 pm15 cd15 ct15 oc16 kV16 dc16 pm16 ct16 oc17 kV17 dc17 pm17 cd17 ct17 oc18 kV18 dc18 pm18 cd18 ct18 oc19 kV19 dc19 pm19 cd19 ct19 oc20 kV20 dc20 pm20 cd20 ct20 oc21 kV21 dc21 pm21 cd21 ct21 oc22 kV22 dc22 pm22 cd22 ct22 oc23 kV23 dc23 pm23 cd23 ct23 oc24 kV24 dc24 pm24 cd24 ct24 oc25 kV25 dc25 pm25 cd25 ct25 oc26 kV26 dc26 pm26 cd26 ct26 oc27 kV27 dc27 pm27 cd27 ct27 oc28 kV28 dc28 pm28 cd28 ct28:Value}
  (a1:PySem.W.nsIn K mainGlobals "ties_at"=some (some (.ref f1)))
  (l1:K.lookup f1=some ⟨oc1,od1,.func (PySem.W.fnOf "ties_at" "ties_at" (Zv sAt) (Zj sAt) (Zd sAt) .none kV1 dc1 pm1 an1 cd1 ct1),sl1⟩)
  (c1':PySem.W.codeIn K cd1 "ties_at"=true)
  (k1:PySem.W.keepIn K (.ref f1)=true)
  (a2:PySem.W.nsIn K mainGlobals "crowd"=some (some (.ref f2)))
  (l2:K.lookup f2=some ⟨oc2,od2,.func (PySem.W.fnOf "crowd" "crowd" (Zv sCr) (Zj sCr) (Zd sCr) .none kV2 dc2 pm2 an2 cd2 ct2),sl2⟩)
  (c2':PySem.W.codeIn K cd2 "crowd"=true)
  (k2:PySem.W.keepIn K (.ref f2)=true)
  (a3:PySem.W.nsIn K mainGlobals "most_of"=some (some (.ref f3)))
  (l3:K.lookup f3=some ⟨oc3,od3,.func (PySem.W.fnOf "most_of" "most_of" (Zv sMo) (Zj sMo) (Zd sMo) .none kV3 dc3 pm3 an3 cd3 ct3),sl3⟩)
  (c3':PySem.W.codeIn K cd3 "most_of"=true)
  (k3:PySem.W.keepIn K (.ref f3)=true)
  (a4:PySem.W.nsIn K mainGlobals "bar"=some (some (.ref f4)))
  (l4:K.lookup f4=some ⟨oc4,od4,.func (PySem.W.fnOf "bar" "bar" (Zv sBr) (Zj sBr) (Zd sBr) .none kV4 dc4 pm4 an4 cd4 ct4),sl4⟩)
  (c4':PySem.W.codeIn K cd4 "bar"=true)
  (k4:PySem.W.keepIn K (.ref f4)=true)
  (a5:PySem.W.nsIn K mainGlobals "parts_of"=some (some (.ref f5)))
  (l5:K.lookup f5=some ⟨oc5,od5,.func (PySem.W.fnOf "parts_of" "parts_of" (Zv sPo) (Zj sPo) (Zd sPo) .none kV5 dc5 pm5 an5 cd5 ct5),sl5⟩)
  (c5':PySem.W.codeIn K cd5 "parts_of"=true)
  (k5:PySem.W.keepIn K (.ref f5)=true)
  (a6:PySem.W.nsIn K mainGlobals "first_crowded"=some (some (.ref f6)))
  (l6:K.lookup f6=some ⟨oc6,od6,.func (PySem.W.fnOf "first_crowded" "first_crowded" (Zv sFc) (Zj sFc) (Zd sFc) .none kV6 dc6 pm6 an6 cd6 ct6),sl6⟩)
  (c6':PySem.W.codeIn K cd6 "first_crowded"=true)
  (k6:PySem.W.keepIn K (.ref f6)=true)
  (a7:PySem.W.nsIn K mainGlobals "bound"=some (some (.ref f7)))
  (l7:K.lookup f7=some ⟨oc7,od7,.func (PySem.W.fnOf "bound" "bound" (Zv sBd) (Zj sBd) (Zd sBd) .none kV7 dc7 pm7 an7 cd7 ct7),sl7⟩)
  (c7':PySem.W.codeIn K cd7 "bound"=true)
  (k7:PySem.W.keepIn K (.ref f7)=true)
  (a8:PySem.W.nsIn K mainGlobals "not_barred"=some (some (.ref f8)))
  (l8:K.lookup f8=some ⟨oc8,od8,.func (PySem.W.fnOf "not_barred" "not_barred" (Zv sNb) (Zj sNb) (Zd sNb) .none kV8 dc8 pm8 an8 cd8 ct8),sl8⟩)
  (c8':PySem.W.codeIn K cd8 "not_barred"=true)
  (k8:PySem.W.keepIn K (.ref f8)=true)
  (a9:PySem.W.nsIn K mainGlobals "search"=some (some (.ref f9)))
  (l9:K.lookup f9=some ⟨oc9,od9,.func (PySem.W.fnOf "search" "search" (Zv sSe) (Zj sSe) (Zd sSe) (.ref d9) kV9 dc9 pm9 an9 cd9 ct9),sl9⟩)
  (c9':PySem.W.codeIn K cd9 "search"=true)
  (k9:PySem.W.keepIn K (.ref f9)=true)
  (a10:PySem.W.nsIn K mainGlobals "barred_at"=some (some (.ref f10)))
  (l10:K.lookup f10=some ⟨oc10,od10,.func (PySem.W.fnOf "barred_at" "barred_at" (Zv sBt) (Zj sBt) (Zd sBt) .none kV10 dc10 pm10 an10 cd10 ct10),sl10⟩)
  (c10':PySem.W.codeIn K cd10 "barred_at"=true)
  (k10:PySem.W.keepIn K (.ref f10)=true)
  (a11:PySem.W.nsIn K mainGlobals "fewest"=some (some (.ref f11)))
  (l11:K.lookup f11=some ⟨oc11,od11,.func (PySem.W.fnOf "fewest" "fewest" (Zv sFe) (Zj sFe) (Zd sFe) (.ref d11) kV11 dc11 pm11 an11 cd11 ct11),sl11⟩)
  (c11':PySem.W.codeIn K cd11 "fewest"=true)
  (k11:PySem.W.keepIn K (.ref f11)=true)
  (a12:PySem.W.nsIn K mainGlobals "_law_mixed"=some (some (.ref f12)))
  (l12:K.lookup f12=some ⟨oc12,od12,.func (PySem.W.fnOf "_law_mixed" "_law_mixed" (Zv sMx) (Zj sMx) (Zd sMx) .none kV12 dc12 pm12 an12 cd12 ct12),sl12⟩)
  (c12':PySem.W.codeIn K cd12 "_law_mixed"=true)
  (k12:PySem.W.keepIn K (.ref f12)=true)
  (a13:PySem.W.nsIn K mainGlobals "_law_draws"=some (some (.ref f13)))
  (l13:K.lookup f13=some ⟨oc13,od13,.func (PySem.W.fnOf "_law_draws" "_law_draws" (Zv sDs) (Zj sDs) (Zd sDs) .none kV13 dc13 pm13 an13 cd13 ct13),sl13⟩)
  (c13':PySem.W.codeIn K cd13 "_law_draws"=true)
  (k13:PySem.W.keepIn K (.ref f13)=true)
  (a14:PySem.W.nsIn K mainGlobals "_law_draw"=some (some (.ref f14)))
  (l14:K.lookup f14=some ⟨oc14,od14,.func (PySem.W.fnOf "_law_draw" "_law_draw" (Zv ZbF) (Zj ZbF) (Zd ZbF) .none kV14 dc14 pm14 an14 cd14 ct14),sl14⟩)
  (c14':PySem.W.codeIn K cd14 "_law_draw"=true)
  (k14:PySem.W.keepIn K (.ref f14)=true)
  (a15:PySem.W.nsIn K mainGlobals "_law_pairs"=some (some (.ref f15)))
  (l15:K.lookup f15=some ⟨oc15,od15,.func (PySem.W.fnOf "_law_pairs" "_law_pairs" (Zv sPa) (Zj sPa) (Zd sPa) .none kV15 dc15 pm15 an15 cd15 ct15),sl15⟩)
  (c15':PySem.W.codeIn K cd15 "_law_pairs"=true)
  (k15:PySem.W.keepIn K (.ref f15)=true)
  (a16:PySem.W.nsIn K mainGlobals "_law_net"=some (some (.ref f16)))
  (l16:K.lookup f16=some ⟨oc16,od16,.func (PySem.W.fnOf "_law_net" "_law_net" (Zv sNt) (Zj sNt) (Zd sNt) .none kV16 dc16 pm16 an16 (.ref c16) ct16),sl16⟩)
  (c16':PySem.W.codeIn K (.ref c16) "_law_net"=true)
  (k16:PySem.W.keepIn K (.ref f16)=true)
  (a17:PySem.W.nsIn K mainGlobals "_law_whole"=some (some (.ref f17)))
  (l17:K.lookup f17=some ⟨oc17,od17,.func (PySem.W.fnOf "_law_whole" "_law_whole" (Zv sWh) (Zj sWh) (Zd sWh) .none kV17 dc17 pm17 an17 cd17 ct17),sl17⟩)
  (c17':PySem.W.codeIn K cd17 "_law_whole"=true)
  (k17:PySem.W.keepIn K (.ref f17)=true)
  (a18:PySem.W.nsIn K mainGlobals "_law_good"=some (some (.ref f18)))
  (l18:K.lookup f18=some ⟨oc18,od18,.func (PySem.W.fnOf "_law_good" "_law_good" (Zv sGo) (Zj sGo) (Zd sGo) .none kV18 dc18 pm18 an18 cd18 ct18),sl18⟩)
  (c18':PySem.W.codeIn K cd18 "_law_good"=true)
  (k18:PySem.W.keepIn K (.ref f18)=true)
  (a19:PySem.W.nsIn K mainGlobals "_law_crowds"=some (some (.ref f19)))
  (l19:K.lookup f19=some ⟨oc19,od19,.func (PySem.W.fnOf "_law_crowds" "_law_crowds" (Zv sLc) (Zj sLc) (Zd sLc) .none kV19 dc19 pm19 an19 cd19 ct19),sl19⟩)
  (c19':PySem.W.codeIn K cd19 "_law_crowds"=true)
  (k19:PySem.W.keepIn K (.ref f19)=true)
  (a20:PySem.W.nsIn K mainGlobals "_law_bar"=some (some (.ref f20)))
  (l20:K.lookup f20=some ⟨oc20,od20,.func (PySem.W.fnOf "_law_bar" "_law_bar" (Zv sLb) (Zj sLb) (Zd sLb) .none kV20 dc20 pm20 an20 cd20 ct20),sl20⟩)
  (c20':PySem.W.codeIn K cd20 "_law_bar"=true)
  (k20:PySem.W.keepIn K (.ref f20)=true)
  (a21:PySem.W.nsIn K mainGlobals "_law_left"=some (some (.ref f21)))
  (l21:K.lookup f21=some ⟨oc21,od21,.func (PySem.W.fnOf "_law_left" "_law_left" (Zv sLe) (Zj sLe) (Zd sLe) .none kV21 dc21 pm21 an21 cd21 ct21),sl21⟩)
  (c21':PySem.W.codeIn K cd21 "_law_left"=true)
  (k21:PySem.W.keepIn K (.ref f21)=true)
  (a22:PySem.W.nsIn K mainGlobals "_law_barred_by"=some (some (.ref f22)))
  (l22:K.lookup f22=some ⟨oc22,od22,.func (PySem.W.fnOf "_law_barred_by" "_law_barred_by" (Zv sBb) (Zj sBb) (Zd sBb) .none kV22 dc22 pm22 an22 cd22 ct22),sl22⟩)
  (c22':PySem.W.codeIn K cd22 "_law_barred_by"=true)
  (k22:PySem.W.keepIn K (.ref f22)=true)
  (a23:PySem.W.nsIn K mainGlobals "_law_paper_fits"=some (some (.ref f23)))
  (l23:K.lookup f23=some ⟨oc23,od23,.func (PySem.W.fnOf "_law_paper_fits" "_law_paper_fits" (Zv sPf) (Zj sPf) (Zd sPf) .none kV23 dc23 pm23 an23 cd23 ct23),sl23⟩)
  (c23':PySem.W.codeIn K cd23 "_law_paper_fits"=true)
  (k23:PySem.W.keepIn K (.ref f23)=true)
  (a24:PySem.W.nsIn K mainGlobals "_law_search"=some (some (.ref f24)))
  (l24:K.lookup f24=some ⟨oc24,od24,.func (PySem.W.fnOf "_law_search" "_law_search" (Zv sSh) (Zj sSh) (Zd sSh) .none kV24 dc24 pm24 an24 cd24 ct24),sl24⟩)
  (c24':PySem.W.codeIn K cd24 "_law_search"=true)
  (k24:PySem.W.keepIn K (.ref f24)=true)
  (a25:PySem.W.nsIn K mainGlobals "_law_by_searches"=some (some (.ref f25)))
  (l25:K.lookup f25=some ⟨oc25,od25,.func (PySem.W.fnOf "_law_by_searches" "_law_by_searches" (Zv sBy) (Zj sBy) (Zd sBy) .none kV25 dc25 pm25 an25 cd25 ct25),sl25⟩)
  (c25':PySem.W.codeIn K cd25 "_law_by_searches"=true)
  (k25:PySem.W.keepIn K (.ref f25)=true)
  (a26:PySem.W.nsIn K mainGlobals "_law_told"=some (some (.ref f26)))
  (l26:K.lookup f26=some ⟨oc26,od26,.func (PySem.W.fnOf "_law_told" "_law_told" (Zv sTo) (Zj sTo) (Zd sTo) .none kV26 dc26 pm26 an26 cd26 ct26),sl26⟩)
  (c26':PySem.W.codeIn K cd26 "_law_told"=true)
  (k26:PySem.W.keepIn K (.ref f26)=true)
  (a27:PySem.W.nsIn K mainGlobals "_law_bounds_kept"=some (some (.ref f27)))
  (l27:K.lookup f27=some ⟨oc27,od27,.func (PySem.W.fnOf "_law_bounds_kept" "_law_bounds_kept" (Zv sBk) (Zj sBk) (Zd sBk) .none kV27 dc27 pm27 an27 cd27 ct27),sl27⟩)
  (c27':PySem.W.codeIn K cd27 "_law_bounds_kept"=true)
  (k27:PySem.W.keepIn K (.ref f27)=true)
  (a28:PySem.W.nsIn K mainGlobals "law"=some (some (.ref f28)))
  (l28:K.lookup f28=some ⟨oc28,od28,.func (PySem.W.fnOf "law" "law" (Zv ZaC) (Zj ZaC) (Zd ZaC) .none kV28 dc28 pm28 an28 cd28 ct28),sl28⟩)
  (c28':PySem.W.codeIn K cd28 "law"=true)
  (k28:PySem.W.keepIn K (.ref f28)=true)
  (hCL:PySem.W.codeHdIn K cL Pt=true)
  (hC16:PySem.W.codeHdIn K c16 Pu=true)
  (nPU:Pu≠Pt)
  (hdl9:K.lookup d9=some ⟨oD,odD,.seq #[.none,.int 300 tD] nD,slD⟩)
  (hdl11:K.lookup d11=some ⟨oE,odE,.seq #[.int 300 tE] nE,slE⟩)
  (zM:PySem.W.nsIn K mainGlobals "MOST_SEARCH_TIES"=some (some (.int 40 tA)))
  (zA:PySem.W.nsIn K mainGlobals "MOST_BOUND_POINTS"=some (some (.int 9 tB)))
  (aS:PySem.W.nsIn K mainGlobals "Search"=some (some (.ref cS)))
  (aT:PySem.W.nsIn K mainGlobals "TooGreat"=some (some (.ref cT)))
  (aTE:PySem.W.nsIn K mainGlobals "TintError"=some (some (.ref cTE)))
  (aM1:PySem.W.nsIn K mainGlobals "NotPlain"=some (some (.ref cM1)))
  (aM2:PySem.W.nsIn K mainGlobals "NotTwoSided"=some (some (.ref cM2)))
  (aM3:PySem.W.nsIn K mainGlobals "TooFew"=some (some (.ref cM3)))
  (mI:PySem.W.findIn K (.ref cS) "__init__"=some (some (.ref fI)))
  (iI:PySem.W.isFn K (.ref fI)=true)
  (lI:K.lookup fI=some ⟨ocI,odI,.func (PySem.W.fnOf "__init__" "Search.__init__" (Zv sIn) (Zj sIn) (Zd sIn) .none kVI dcI pmI anI cdI ctI),slI⟩)
  (cI':PySem.W.codeIn K cdI "Search.__init__"=true)
  (kI:PySem.W.keepIn K (.ref fI)=true)
  (mR:PySem.W.findIn K (.ref cS) "narrowed"=some (some (.ref fR)))
  (iR:PySem.W.isFn K (.ref fR)=true)
  (lR:K.lookup fR=some ⟨ocR,odR,.func (PySem.W.fnOf "narrowed" "Search.narrowed" (Zv sNr) (Zj sNr) (Zd sNr) .none kVR dcR pmR anR cdR ctR),slR⟩)
  (cR':PySem.W.codeIn K cdR "Search.narrowed"=true)
  (kR:PySem.W.keepIn K (.ref fR)=true)
  (mL:PySem.W.findIn K (.ref cS) "look"=some (some (.ref fL)))
  (iL:PySem.W.isFn K (.ref fL)=true)
  (lL:K.lookup fL=some ⟨ocL,odL,.func (PySem.W.fnOf "look" "Search.look" (Zv sLk) (Zj sLk) (Zd sLk) .none kVL dcL pmL anL (.ref cL) ctL),slL⟩)
  (cL':PySem.W.codeIn K (.ref cL) "Search.look"=true)
  (kL:PySem.W.keepIn K (.ref fL)=true)
  (pgS:PySem.W.plainGet K cS Str.empty=true)
  (hdS:PySem.W.hasDictIn K cS=true)
  (poS:PySem.W.plainOver K cS=true)
  (saS:PySem.W.findIn K (.ref cS) "__setattr__"=some (some (.builtin "object.__setattr__")))
  (mkS:PySem.W.makesIn K cS=true)
  (kcS:PySem.W.keepIn K (.ref cS)=true)
  (n1S:PySem.W.findIn K (.ref cS) "near"=some none)
  (n2S:PySem.W.findIn K (.ref cS) "most"=some none)
  (n3S:PySem.W.findIn K (.ref cS) "looked"=some none)
  (hCxc:RX.Zff K cT cTE=true)
  (saT:PySem.W.findIn K (.ref cT) "__setattr__"=some (some (.builtin "object.__setattr__")))
  (kpT:PySem.W.keepIn K (.ref cT)=true)
  (inT:PySem.W.findIn K (.ref cT) "__init__"=some (some (.ref fX)))
  (ifX:PySem.W.isFn K (.ref fX)=true)
  (lX:K.lookup fX=some ⟨ocX,odX,.func (PySem.W.fnOf "__init__" "TooGreat.__init__" (Zv sTg) (Zj sTg) (Zd sTg) .none kVX dcX pmX anX cdX ctX),slX⟩)
  (cX':PySem.W.codeIn K cdX "TooGreat.__init__"=true)
  (kX:PySem.W.keepIn K (.ref fX)=true)
  (neT:PySem.W.findIn K (.ref cT) "most"=some none)
  (xg1:PySem.W.findIn K (.ref cT) "__getattribute__"=some (some (.builtin "BaseException.__getattribute__")))
  (xg2:PySem.W.findIn K (.ref cT) "__getattr__"=some none)
  (xg3:PySem.W.hasDictIn K cT=true)
  (hCx4:PySem.W.mroIn K cT (.type "BaseException")=some true)
  (hCx5:PySem.W.mroIn K cT (.type "object")=some true)
  (xg6:PySem.W.findIn K (.ref cT) "__class__"=some (some (.builtin "object.__class__")))
  (xg7:PySem.W.specialIn K (.builtin "object.__class__") "__get__"=some (some (.builtin "getset_descriptor.__get__")))
  (xg8:PySem.W.takesIn K (.builtin "object.__class__")=some true)
  (hCke:PySem.W.kitCls K (.ref cT) (.ref cTE)=some true)
  (hCktt:PySem.W.kitCls K (.ref cT) (.ref cT)=some true)
  (hCkb:PySem.W.mroIn K cTE (.type "BaseException")=some true)
  (hCkm:PySem.W.kitAny K (.ref cT) [.ref cM1,.ref cM2,.ref cM3]=some false)
  (hCk1:PySem.W.kitOne K (.ref cT) (.ref cT)=some true)
  (z1:PySem.W.nsIn K mainGlobals "len"=some none)
  (z2:PySem.W.nsIn K mainGlobals "isinstance"=some none)
  (z3:PySem.W.nsIn K mainGlobals "int"=some none)
  (z4:PySem.W.nsIn K mainGlobals "bool"=some none)
  (z5:PySem.W.nsIn K mainGlobals "tuple"=some none)
  (z6:PySem.W.nsIn K mainGlobals "list"=some none)
  (z7:PySem.W.nsIn K mainGlobals "range"=some none)
  (z8:PySem.W.nsIn K mainGlobals "max"=some none)
  (z9:PySem.W.nsIn K mainGlobals "min"=some none)
  (z10:PySem.W.nsIn K mainGlobals "zip"=some none)
  (z11:PySem.W.nsIn K mainGlobals "dict"=some none)
  (z12:PySem.W.nsIn K mainGlobals "enumerate"=some none)
  (z13:PySem.W.nsIn K mainGlobals "str"=some none)
  (z14:PySem.W.nsIn K mainGlobals "sorted"=some none)
  (z15:PySem.W.nsIn K mainGlobals "set"=some none)
  :∃fd:FuncData,(∀(s:Shared)(v:Value),BindsTo s fd ⟨[v],[]⟩ [("_law_script",v)])/\∀base:Heap,K.In base->base.Ns mainGlobals mg->BM mg base->FnOk l.prog w K mg base CX0 50 fa fd ["_law_script"] (ZdQ K Pt Pu):=by
 have e:=hfa.symm.trans (PySem.W.mg_of X G a28)
 cases e
 have F1:=ZD (st:=sAt) l1 c1' k1
 have F2:=ZD (st:=sCr) l2 c2' k2
 have F3:=ZD (st:=sMo) l3 c3' k3
 have F4:=ZD (st:=sBr) l4 c4' k4
 have F5:=ZD (st:=sPo) l5 c5' k5
 have F6:=ZD (st:=sFc) l6 c6' k6
 have F7:=ZD (st:=sBd) l7 c7' k7
 have F8:=ZD (st:=sNb) l8 c8' k8
 have F9:FunD K "search" "search" sSe f9 _:=⟨⟨oc9,od9,.ref d9,kV9,dc9,pm9,an9,cd9,ct9,sl9,rfl,l9,c9'⟩⟩
 have F10:=ZD (st:=sBt) l10 c10' k10
 have F11:FunD K "fewest" "fewest" sFe f11 _:=⟨⟨oc11,od11,.ref d11,kV11,dc11,pm11,an11,cd11,ct11,sl11,rfl,l11,c11'⟩⟩
 have F12:=ZD (st:=sMx) l12 c12' k12
 have F13:=ZD (st:=sDs) l13 c13' k13
 have F14:=ZD (st:=ZbF) l14 c14' k14
 have F15:=ZD (st:=sPa) l15 c15' k15
 have F16:=ZD (st:=sNt) l16 c16' k16
 have F17:=ZD (st:=sWh) l17 c17' k17
 have F18:=ZD (st:=sGo) l18 c18' k18
 have F19:=ZD (st:=sLc) l19 c19' k19
 have F20:=ZD (st:=sLb) l20 c20' k20
 have F21:=ZD (st:=sLe) l21 c21' k21
 have F22:=ZD (st:=sBb) l22 c22' k22
 have F23:=ZD (st:=sPf) l23 c23' k23
 have F24:=ZD (st:=sSh) l24 c24' k24
 have F25:=ZD (st:=sBy) l25 c25' k25
 have F26:=ZD (st:=sTo) l26 c26' k26
 have F27:=ZD (st:=sBk) l27 c27' k27
 have F28:=ZD (st:=ZaC) l28 c28' k28
 have F16c:FunC K "_law_net" "_law_net" sNt f16 _ c16:=⟨oc16,od16,kV16,dc16,pm16,an16,ct16,sl16,rfl,l16,c16'⟩
 have b1:=F1.binds (ps:=["net","point"]) fun _ _ _ _ _ _ us hl=>match us,hl with|[_,_],_=>rfl
 have b2:=F2.binds (ps:=["net","point"]) fun _ _ _ _ _ _ us hl=>match us,hl with|[_,_],_=>rfl
 have b3:=F3.binds (ps:=["net"]) fun _ _ _ _ _ _ us hl=>match us,hl with|[_],_=>rfl
 have b4:=F4.binds (ps:=["net","part"]) fun _ _ _ _ _ _ us hl=>match us,hl with|[_,_],_=>rfl
 have b5:=F5.binds (ps:=["net"]) fun _ _ _ _ _ _ us hl=>match us,hl with|[_],_=>rfl
 have b6:=F6.binds (ps:=["net","most"]) fun _ _ _ _ _ _ us hl=>match us,hl with|[_,_],_=>rfl
 have b7:=F7.binds (ps:=["net"]) fun _ _ _ _ _ _ us hl=>match us,hl with|[_],_=>rfl
 have b8:=F8.binds (ps:=["many","row"]) fun _ _ _ _ _ _ us hl=>match us,hl with|[_,_],_=>rfl
 have b9:Binds K (PySem.W.fnOf "search" "search" (Zv sSe) (Zj sSe) (Zd sSe) (.ref d9) kV9 dc9 pm9 an9 cd9 ct9) ["net","many","barred","most"] []:=fun s us X hl=>by
  rw[List.append_nil]at hl⊢
  match us,hl with
  |[u0,u1,u2,u3],_=>exact PySem.W.binds_K X rfl hdl9 rfl rfl rfl
 have b10:=F10.binds (ps:=["net","point","many"]) fun _ _ _ _ _ _ us hl=>match us,hl with|[_,_,_],_=>rfl
 have b11:Binds K (PySem.W.fnOf "fewest" "fewest" (Zv sFe) (Zj sFe) (Zd sFe) (.ref d11) kV11 dc11 pm11 an11 cd11 ct11) ["net","most"] []:=fun s us X hl=>by
  rw[List.append_nil]at hl⊢
  match us,hl with
  |[u0,u1],_=>exact PySem.W.binds_K X rfl hdl11 rfl rfl rfl
 have b12:=F12.binds (ps:=["_law_cell","_law_k"]) fun _ _ _ _ _ _ us hl=>match us,hl with|[_,_],_=>rfl
 have b13:=F13.binds (ps:=["_law_script","_law_many"]) fun _ _ _ _ _ _ us hl=>match us,hl with|[_,_],_=>rfl
 have b14:=F14.binds (ps:=["_law_draws_here","_law_k"]) fun _ _ _ _ _ _ us hl=>match us,hl with|[_,_],_=>rfl
 have b15:=F15.binds (ps:=["_law_draws_here","_law_at","_law_kind"]) fun _ _ _ _ _ _ us hl=>match us,hl with|[_,_,_],_=>rfl
 have b16:=F16.binds (ps:=["_law_draws_here","_law_at"]) fun _ _ _ _ _ _ us hl=>match us,hl with|[_,_],_=>rfl
 have b17:=F17.binds (ps:=["_law_found"]) fun _ _ _ _ _ _ us hl=>match us,hl with|[_],_=>rfl
 have b18:=F18.binds (ps:=["_law_net_here","_law_tints","_law_many"]) fun _ _ _ _ _ _ us hl=>match us,hl with|[_,_,_],_=>rfl
 have b19:=F19.binds (ps:=["_law_net_here"]) fun _ _ _ _ _ _ us hl=>match us,hl with|[_],_=>rfl
 have b20:=F20.binds (ps:=["_law_net_here","_law_part"]) fun _ _ _ _ _ _ us hl=>match us,hl with|[_,_],_=>rfl
 have b21:=F21.binds (ps:=["_law_net_here","_law_tints","_law_many","_law_own_tints","_law_tie"]) fun _ _ _ _ _ _ us hl=>match us,hl with|[_,_,_,_,_],_=>rfl
 have b22:=F22.binds (ps:=["_law_net_here","_law_tints","_law_many","_law_own_tints","_law_case"]) fun _ _ _ _ _ _ us hl=>match us,hl with|[_,_,_,_,_],_=>rfl
 have b23:=F23.binds (ps:=["_law_net_here","_law_number","_law_paper"]) fun _ _ _ _ _ _ us hl=>match us,hl with|[_,_,_],_=>rfl
 have b24:=F24.binds (ps:=["_law_net_here","_law_many","_law_at_most"]) fun _ _ _ _ _ _ us hl=>match us,hl with|[_,_,_],_=>rfl
 have b25:=F25.binds (ps:=["_law_net_here","_law_found","_law_other","_law_less"]) fun _ _ _ _ _ _ us hl=>match us,hl with|[_,_,_,_],_=>rfl
 have b26:=F26.binds (ps:=["_law_net_here","_law_at_most"]) fun _ _ _ _ _ _ us hl=>match us,hl with|[_,_],_=>rfl
 have b27:=F27.binds (ps:=["_law_draws_here","_law_net_here"]) fun _ _ _ _ _ _ us hl=>match us,hl with|[_,_],_=>rfl
 have T:Bi mg:=⟨PySem.W.mg_none_of X G z1,PySem.W.mg_none_of X G z2,PySem.W.mg_none_of X G z3,PySem.W.mg_none_of X G z4,PySem.W.mg_none_of X G z5,PySem.W.mg_none_of X G z6,PySem.W.mg_none_of X G z7,PySem.W.mg_none_of X G z8,PySem.W.mg_none_of X G z9,PySem.W.mg_none_of X G z10,PySem.W.mg_none_of X G z11⟩
 have g1:=PySem.W.mg_of X G a1
 have g2:=PySem.W.mg_of X G a2
 have g3:=PySem.W.mg_of X G a3
 have g4:=PySem.W.mg_of X G a4
 have g5:=PySem.W.mg_of X G a5
 have g6:=PySem.W.mg_of X G a6
 have g7:=PySem.W.mg_of X G a7
 have g8:=PySem.W.mg_of X G a8
 have g9:=PySem.W.mg_of X G a9
 have g10:=PySem.W.mg_of X G a10
 have g11:=PySem.W.mg_of X G a11
 have g12:=PySem.W.mg_of X G a12
 have g13:=PySem.W.mg_of X G a13
 have g14:=PySem.W.mg_of X G a14
 have g15:=PySem.W.mg_of X G a15
 have g16:=PySem.W.mg_of X G a16
 have g17:=PySem.W.mg_of X G a17
 have g18:=PySem.W.mg_of X G a18
 have g19:=PySem.W.mg_of X G a19
 have g20:=PySem.W.mg_of X G a20
 have g21:=PySem.W.mg_of X G a21
 have g22:=PySem.W.mg_of X G a22
 have g23:=PySem.W.mg_of X G a23
 have g24:=PySem.W.mg_of X G a24
 have g25:=PySem.W.mg_of X G a25
 have g26:=PySem.W.mg_of X G a26
 have g27:=PySem.W.mg_of X G a27
 refine⟨PySem.W.fnOf "law" "law" (Zv ZaC) (Zj ZaC) (Zd ZaC) .none kV28 dc28 pm28 an28 cd28 ct28,fun s v=> .of_eq rfl,fun base _ _ hbm=>?_⟩
 have E1:FnE l.prog w K mg base "ties_at" ["net","point"] 1 spAt:=⟨⟨f1,_,ZjN F1 T (PySem.W.mg_none_of X G z12),g1,k1,b1⟩⟩
 have E2:FnE l.prog w K mg base "crowd" ["net","point"] 2 spCr:=⟨⟨f2,_,ZjG F2 T E1,g2,k2,b2⟩⟩
 have E3:FnE l.prog w K mg base "most_of" ["net"] 1 spMo:=⟨⟨f3,_,Zj7 F3 T,g3,k3,b3⟩⟩
 have E4:FnE l.prog w K mg base "bar" ["net","part"] 1 spBr:=⟨⟨f4,_,ZjJ F4 T,g4,k4,b4⟩⟩
 have E5:FnE l.prog w K mg base "parts_of" ["net"] 1 spPo:=⟨⟨f5,_,Zj0 F5 T,g5,k5,b5⟩⟩
 have E6:FnE l.prog w K mg base "first_crowded" ["net","most"] 3 spFc:=⟨⟨f6,_,ZjE F6 T E2,g6,k6,b6⟩⟩
 have E7:FnE l.prog w K mg base "bound" ["net"] 5 spBd:=⟨⟨f7,_,ZjL F7 (PySem.W.mg_of X G zA) (E3.mono (by decide)) (E6.mono (by decide)) (E5.mono (by decide)) (E4.mono (by decide)),g7,k7,b7⟩⟩
 have E8:FnE l.prog w K mg base "not_barred" ["many","row"] 1 spNb:=⟨⟨f8,_,Zj5 F8 T,g8,k8,b8⟩⟩
 have FX:=ZD (st:=sTg) lX cX' kX
 have bX:=FX.binds (ps:=["self","most"]) fun _ _ _ _ _ _ us hl=>match us,hl with|[_,_],_=>rfl
 have XC:RX.XCl K cT cTE:=⟨hCxc,saT,kpT⟩
 have GR:Grt l.prog w K mg base cT:=⟨⟨cTE,fX,_,XC,inT,ifX,Zh9 FX XC neT,bX⟩,(PySem.W.mg_of X G aT)⟩
 have S:SrC K cS:=⟨⟨pgS,hdS,poS,saS⟩,n1S,n2S,n3S⟩
 have FI:=ZD (st:=sIn) lI cI' kI
 have bI:=FI.binds (ps:=["self","net","most"]) fun _ _ _ _ _ _ us hl=>match us,hl with|[_,_,_],_=>rfl
 have FR:=ZD (st:=sNr) lR cR' kR
 have bR:=FR.binds (ps:=["self","left","tie","tint"]) fun _ _ _ _ _ _ us hl=>match us,hl with|[_,_,_,_],_=>rfl
 have FL:=ZD (st:=sLk) lL cL' kL
 have bL:=FL.binds (ps:=["self","tints","left"]) fun _ _ _ _ _ _ us hl=>match us,hl with|[_,_,_],_=>rfl
 have FLc:FunC K "look" "Search.look" sLk fL _ cL:=⟨ocL,odL,kVL,dcL,pmL,anL,ctL,slL,rfl,lL,cL'⟩
 have OI:=ZjB (P:=l.prog) (w:=w) (mg:=mg) (base:=base) FI T S E1
 have MN:MeE l.prog w K mg base cS "narrowed" ["self","left","tie","tint"] 1 (Zg6 cS):=⟨⟨fR,_,Zj4 FR T S,⟨mR,iR,kR⟩,S.cl,bR⟩⟩
 have OL:=fun es bs m n=>Zeb (Pt:=Pt) FLc T S GR hbm hCL ⟨mL,iL,kL⟩ bL MN es bs m n
 have OS:=Zjz (Pt:=Pt) F9 T (PySem.W.mg_none_of X G z12) S GR (PySem.W.mg_of X G zM) (PySem.W.mg_of X G aS) ⟨mkS,mI,iI,kcS⟩ OI bI E8 ⟨mL,iL,kL⟩ bL OL
 have KC:Kinds K mg cT:=⟨⟨cTE,cM1,cM2,cM3,(PySem.W.mg_of X G aTE),(PySem.W.mg_of X G aM1),(PySem.W.mg_of X G aM2),(PySem.W.mg_of X G aM3),hCke,hCkb,hCkm⟩,hCk1,⟨xg1,xg2,xg3,hCx4,hCx5,xg6,xg7,xg8⟩,neT⟩
 have OBX:=Ziu (P:=l.prog) (w:=w) (base:=base) F7 (PySem.W.mg_of X G zA) XC inT ifX ((Zh9 FX XC neT).mono (by decide)) bX (PySem.W.mg_of X G aT)
 have E10:FnE l.prog w K mg base "barred_at" ["net","point","many"] 2 spBt:=⟨⟨f10,_,ZjI F10 T (PySem.W.mg_none_of X G z12) E1,g10,k10,b10⟩⟩
 have b11d:Binds K (PySem.W.fnOf "fewest" "fewest" (Zv sFe) (Zj sFe) (Zd sFe) (.ref d11) kV11 dc11 pm11 an11 cd11 ct11) ["net","most"] [.int 300 tE]:=fun s us X hl=>by
  have hl2:us.length=1:=by simpa using hl
  match us,hl2 with
  |[u0],_=>exact PySem.W.binds_K X rfl hdl11 rfl rfl rfl
 have b11k:ZdM K (PySem.W.fnOf "fewest" "fewest" (Zv sFe) (Zj sFe) (Zd sFe) (.ref d11) kV11 dc11 pm11 an11 cd11 ct11) ["net","most"] ["most"] kwG kwV:=⟨fun s us ws X hl=>(by
  match us,ws,hl with
  |[u0],[w0],_=>exact PySem.W.binds_K X rfl hdl11 rfl rfl rfl
  |[],_,hl=>cases hl
  |_::_::_,_,hl=>cases hl
  |[_],[],hl=>cases hl
  |[_],_::_::_,hl=>cases hl),Zi8⟩
 have OF:FnOk l.prog w K mg base (RX.CXe l.prog w) 47 f11 _ ["net","most"] (Zfm cT Pt):=(ZjD (Pt:=Pt) F11 T E7 (E6.mono (by decide)) (E3.mono (by decide)) E10 OS g9 k9 b9).or (Zit F11 OBX g7 k7 b7)
 have E12:FnE l.prog w K mg base "_law_mixed" ["_law_cell","_law_k"] 1 spMx:=⟨⟨f12,_,Zj6 F12 T,g12,k12,b12⟩⟩
 have E13:FnE l.prog w K mg base "_law_draws" ["_law_script","_law_many"] 2 (ZhZ K):=⟨⟨f13,_,ZjF F13 T E12,g13,k13,b13⟩⟩
 have E14:FnE l.prog w K mg base "_law_draw" ["_law_draws_here","_law_k"] 1 (Jn K):=⟨⟨f14,_,ZgL F14 T,g14,k14,b14⟩⟩
 have E15:FnE l.prog w K mg base "_law_pairs" ["_law_draws_here","_law_at","_law_kind"] 2 (ZhX K):=⟨⟨f15,_,Zj2 F15 T E14,g15,k15,b15⟩⟩
 have E16:FnE l.prog w K mg base "_law_net" ["_law_draws_here","_law_at"] 5 (ZhY K Pu):=⟨⟨f16,_,Zj3 F16c T (PySem.W.mg_none_of X G z14) hbm hC16 E14 E15,g16,k16,b16⟩⟩
 have E17:FnE l.prog w K mg base "_law_whole" ["_law_found"] 1 (ZaT K):=⟨⟨f17,_,Zjw F17 T,g17,k17,b17⟩⟩
 have E18:FnE l.prog w K mg base "_law_good" ["_law_net_here","_law_tints","_law_many"] 2 spGo:=⟨⟨f18,_,ZjC F18 T E17,g18,k18,b18⟩⟩
 have E19:FnE l.prog w K mg base "_law_crowds" ["_law_net_here"] 1 spLc:=⟨⟨f19,_,Zj9 F19 T,g19,k19,b19⟩⟩
 have E20:FnE l.prog w K mg base "_law_bar" ["_law_net_here","_law_part"] 1 spLb:=⟨⟨f20,_,ZjA F20 T (PySem.W.mg_none_of X G z15),g20,k20,b20⟩⟩
 have E21:FnE l.prog w K mg base "_law_left" ["_law_net_here","_law_tints","_law_many","_law_own_tints","_law_tie"] 1 spLe:=⟨⟨f21,_,Zj8 F21 T,g21,k21,b21⟩⟩
 have E22:FnE l.prog w K mg base "_law_barred_by" ["_law_net_here","_law_tints","_law_many","_law_own_tints","_law_case"] 42 spBbA:=⟨⟨f22,_,ZjM F22 T E21 E17 g22 k22 b22,g22,k22,b22⟩⟩
 have E23:FnE l.prog w K mg base "_law_paper_fits" ["_law_net_here","_law_number","_law_paper"] 43 spPf:=⟨⟨f23,_,Zj1 F23 T (PySem.W.mg_none_of X G z13) E19 E17 E20 E7 E22,g23,k23,b23⟩⟩
 have E24:FnE l.prog w K mg base "_law_search" ["_law_net_here","_law_many","_law_at_most"] 47 (ZhV Pt):=⟨⟨f24,_,Zjy F24 T KC (PySem.W.mg_of X G aT) hCx4 hCktt E19 OS g9 k9 b9,g24,k24,b24⟩⟩
 have E25:FnE l.prog w K mg base "_law_by_searches" ["_law_net_here","_law_found","_law_other","_law_less"] 48 (Zg7 Pt):=⟨⟨f25,_,ZjH F25 T E17 E7 E24,g25,k25,b25⟩⟩
 have E26:FnE l.prog w K mg base "_law_told" ["_law_net_here","_law_at_most"] 48 (Zcf cT Pt):=⟨⟨f26,_,Zjx F26 T KC (PySem.W.mg_of X G aT) OF g11 k11 b11 b11d b11k,g26,k26,b26⟩⟩
 have E27:FnE l.prog w K mg base "_law_bounds_kept" ["_law_draws_here","_law_net_here"] 49 (Zia K Pt):=⟨⟨f27,_,ZjK F27 T E14 E17 E26,g27,k27,b27⟩⟩
 exact Zis F28 T (Ne.symm nPU) E13 E14 E16 E26 E27 E17 E18 E23 E25
theorem walk{l:PySem.W.OpenLaw}{q:Program}{loose:List Str}{XP:(Str->Option Value)->Heap->Prop}{YP:World->Heap->Prop}{d:DefRec}{K:Params->PySem.W.Frag}{Pt Pu:Addr}(hn:l.most=some 63)(hdf:d.params.defaults=[])
  (hY:∀(w:World)(h:Heap),YP w h->(K w.params).In h) (hY2:∀(w:World)(h:Heap),YP w h->∀Q∈[Pt,Pu],h.get? Q=some (PySem.W.tabObj #[])) (hKn:∀w:World,PySem.W.noTabs (K w.params)=true) (hC:∀w:World,∀Q∈[Pt,Pu],∃c,PySem.W.codeHdIn (K w.params) c Q=true)
  (F:∀(w:World)(mg:Str->Option Value)(fa:Addr)(h:Heap),(K w.params).In h->h.Ns mainGlobals mg->mg d.name=some (.ref fa)->
   ∃fd:FuncData,(∀(s:Shared)(u:Value),BindsTo s fd ⟨[u],[]⟩ [("_law_script",u)])/\∀base:Heap,(K w.params).In base->base.Ns mainGlobals mg->BM mg base->FnOk l.prog w (K w.params) mg base CX0 50 fa fd ["_law_script"] (ZdQ (K w.params) Pt Pu)):
  PySem.W.WalkO q loose XP YP l.row.toRowW d [] (fun f vs=>PySem.call f vs):=
 Zfg (n:=63) (k:=50) (x:="_law_script") (ts:=[Pt,Pu]) (sp:=fun K=>ZdQ K Pt Pu) hn (by decide) hdf ⟨rfl,by decide,by decide⟩ hY hY2 hKn hC F
  (fun K H a ns hl hT hS=>⟨a,ns,rfl,hS,hl,.inl (hT Pt (.head _)),.inl (hT Pu (.tail _ (.head _))),fun _=>rfl⟩)
end My
open PySem PySem.W PyProof.Rows
def PySem.W.Fast.tw6323233944962071278:Unit:=()
def PySem.W.Fast.tw3582195023998251687:Unit:=()
def PySem.W.Fast.tw6684311800622665088:Unit:=()
def PySem.W.Fast.tw13822086431421293971:Unit:=()
def PySem.W.Fast.tw400031579135711006:Unit:=()
def PySem.W.Fast.tw12542070480820851346:Unit:=()
def PySem.W.Fast.tw15532996078822585507:Unit:=()
def PySem.W.Fast.tw10674697310099060625:Unit:=()
def PySem.W.Fast.tw10686045263705933584:Unit:=()
def PySem.W.Fast.tw6784286188880817687:Unit:=()
def PySem.W.Fast.tw1645128850421015046:Unit:=()
def PySem.W.Fast.tw5999681884156891192:Unit:=()
def PySem.W.Fast.tw8501295296778250682:Unit:=()
def PySem.W.Fast.tw15739989999490561269:Unit:=()
def PySem.W.Fast.tw18445257950498272661:Unit:=()
def PySem.W.Fast.tw11021184007428354428:Unit:=()
def PySem.W.Fast.tw4583871314675478693:Unit:=()
def PySem.W.Fast.tw12068506399768257658:Unit:=()
def PySem.W.Fast.tw2322373555173465288:Unit:=()
def PySem.W.Fast.tw15867652312847759673:Unit:=()
def PySem.W.Fast.tw13283694210521587969:Unit:=()
def PySem.W.Fast.tw3775796722341857621:Unit:=()
def PySem.W.Fast.tw8982323369157647617:Unit:=()
def PySem.W.Fast.tw13450188475321420078:Unit:=()
def PySem.W.Fast.tw1473362138854314462:Unit:=()
def PySem.W.Fast.tw2856188486886476515:Unit:=()
def PySem.W.Fast.tw1644234029004757066:Unit:=()
def PySem.W.Fast.tw9064020450769829770:Unit:=()
def PySem.W.Fast.tw12873739258956706147:Unit:=()
def PySem.W.Fast.tw1045702602712755876:Unit:=()
def PySem.W.Fast.tw7656608671760216809:Unit:=()
def PySem.W.Fast.tw9830339354076733556:Unit:=()
def PySem.W.Fast.tw8257861910675033717:Unit:=()
def PySem.W.Fast.tw17394456989740698769:Unit:=()
def PySem.W.Fast.tw6395776050887688786:Unit:=()
def PySem.W.Fast.tw13979804869969194499:Unit:=()
def PySem.W.Fast.tw15327550190394964303:Unit:=()
def PySem.W.Fast.tw15777383759340523376:Unit:=()
def PySem.W.Fast.tw6044031451825904750:Unit:=()
def PySem.W.Fast.tw1805887169981879687:Unit:=()
def PySem.W.Fast.tw2813617824541319645:Unit:=()
def PySem.W.Fast.tw13295587590844479473:Unit:=()
def PySem.W.Fast.tw16438155549287661266:Unit:=()
def PySem.W.Fast.tw8054500132071738772:Unit:=()
def PySem.W.Fast.tw2500011348032832287:Unit:=()
def PySem.W.Fast.tw15971438617597187921:Unit:=()
def PySem.W.Fast.tw17205137899341440660:Unit:=()
def PySem.W.Fast.tw12702248265062433930:Unit:=()
def PySem.W.Fast.tw2384967537021820547:Unit:=()
def PySem.W.Fast.tw3036784115944317262:Unit:=()
def PySem.W.Fast.tw7433253210030562945:Unit:=()
def PySem.W.Fast.tw10701868735688062724:Unit:=()
def PySem.W.Fast.tw12068350201842123267:Unit:=()
def PySem.W.Fast.tw17277571325095260755:Unit:=()
def PySem.W.Fast.tw1586360192253624171:Unit:=()
def PySem.W.Fast.tw7718892939394278960:Unit:=()
def PySem.W.Fast.tw11281620872906228434:Unit:=()
def PySem.W.Fast.tw5272182339883523204:Unit:=()
def PySem.W.Fast.tw12110845989847363747:Unit:=()
def PySem.W.Fast.tw54339661597595759:Unit:=()
def PySem.W.Fast.tw17558712663550067292:Unit:=()
def PySem.W.Fast.tw8484699641329545941:Unit:=()
def PySem.W.Fast.tw16006521879102185270:Unit:=()
def PySem.W.Fast.tw16295001583890997345:Unit:=()
def PySem.W.Fast.tw12384254400130420028:Unit:=()
set_option maxRecDepth 100000 in
set_option maxHeartbeats 0 in
theorem PySem.Challenge.cw_tintties_k64_whole_fewest_holds : PySem.Challenge.rw_tintties_k64_whole_fewest.Holds := by
 w_on;o_law;k_head;(case hw=>w_witness2)
 k_fill
 refine My.walk (l:=PySem.Challenge.rw_tintties_k64_whole_fewest) rfl rfl (fun w h Y=>PySem.W.km_in_of Y) (fun w h Y=>PySem.W.km_tabs_of Y) ?n ?c ?F
 case n=>intro w;kernel_rfl
 case c=>
  intro w Q hQ
  simp only[List.mem_cons,List.not_mem_nil,or_false]at hQ
  rcases hQ with rfl|rfl
  all_goals (refine My.ZiE ?_;kernel_rfl)
 case F=>
  intro w mg fa h KX G hmg
  refine' My.all_mk KX G hmg ?a1 ?l1 ?c1p ?k1 ?a2 ?l2 ?c2p ?k2 ?a3 ?l3 ?c3p ?k3 ?a4 ?l4 ?c4p ?k4 ?a5 ?l5 ?c5p ?k5 ?a6 ?l6 ?c6p ?k6 ?a7 ?l7 ?c7p ?k7 ?a8 ?l8 ?c8p ?k8 ?a9 ?l9 ?c9p ?k9 ?a10 ?l10 ?c10p ?k10 ?a11 ?l11 ?c11p ?k11 ?a12 ?l12 ?c12p ?k12 ?a13 ?l13 ?c13p ?k13 ?a14 ?l14 ?c14p ?k14 ?a15 ?l15 ?c15p ?k15 ?a16 ?l16 ?c16p ?k16 ?a17 ?l17 ?c17p ?k17 ?a18 ?l18 ?c18p ?k18 ?a19 ?l19 ?c19p ?k19 ?a20 ?l20 ?c20p ?k20 ?a21 ?l21 ?c21p ?k21 ?a22 ?l22 ?c22p ?k22 ?a23 ?l23 ?c23p ?k23 ?a24 ?l24 ?c24p ?k24 ?a25 ?l25 ?c25p ?k25 ?a26 ?l26 ?c26p ?k26 ?a27 ?l27 ?c27p ?k27 ?a28 ?l28 ?c28p ?k28 ?hCL ?hC16 ?nPU ?hdl9 ?hdl11 ?zM ?zA ?aS ?aT ?aTE ?aM1 ?aM2 ?aM3 ?mI ?iI ?lI ?cIp ?kI ?mR ?iR ?lR ?cRp ?kR ?mL ?iL ?lL ?cLp ?kL ?pgS ?hdS ?poS ?saS ?mkS ?kcS ?n1S ?n2S ?n3S ?hCxc ?saT ?kpT ?inT ?ifX ?lX ?cXp ?kX ?neT ?xg1 ?xg2 ?xg3 ?hCx4 ?hCx5 ?xg6 ?xg7 ?xg8 ?hCke ?hCktt ?hCkb ?hCkm ?hCk1 ?z1 ?z2 ?z3 ?z4 ?z5 ?z6 ?z7 ?z8 ?z9 ?z10 ?z11 ?z12 ?z13 ?z14 ?z15
  (case a1=>k_is);(case l1=>k_is);(case c1p=>k_is);(case k1=>k_is)
  (case a2=>k_is);(case l2=>k_is);(case c2p=>k_is);(case k2=>k_is)
  (case a3=>k_is);(case l3=>k_is);(case c3p=>k_is);(case k3=>k_is)
  (case a4=>k_is);(case l4=>k_is);(case c4p=>k_is);(case k4=>k_is)
  (case a5=>k_is);(case l5=>k_is);(case c5p=>k_is);(case k5=>k_is)
  (case a6=>k_is);(case l6=>k_is);(case c6p=>k_is);(case k6=>k_is)
  (case a7=>k_is);(case l7=>k_is);(case c7p=>k_is);(case k7=>k_is)
  (case a8=>k_is);(case l8=>k_is);(case c8p=>k_is);(case k8=>k_is)
  (case a9=>k_is);(case l9=>k_is);(case c9p=>k_is);(case k9=>k_is)
  (case a10=>k_is);(case l10=>k_is);(case c10p=>k_is);(case k10=>k_is)
  (case a11=>k_is);(case l11=>k_is);(case c11p=>k_is);(case k11=>k_is)
  (case a12=>k_is);(case l12=>k_is);(case c12p=>k_is);(case k12=>k_is)
  (case a13=>k_is);(case l13=>k_is);(case c13p=>k_is);(case k13=>k_is)
  (case a14=>k_is);(case l14=>k_is);(case c14p=>k_is);(case k14=>k_is)
  (case a15=>k_is);(case l15=>k_is);(case c15p=>k_is);(case k15=>k_is)
  (case a16=>k_is);(case l16=>k_is);(case c16p=>k_is);(case k16=>k_is)
  (case a17=>k_is);(case l17=>k_is);(case c17p=>k_is);(case k17=>k_is)
  (case a18=>k_is);(case l18=>k_is);(case c18p=>k_is);(case k18=>k_is)
  (case a19=>k_is);(case l19=>k_is);(case c19p=>k_is);(case k19=>k_is)
  (case a20=>k_is);(case l20=>k_is);(case c20p=>k_is);(case k20=>k_is)
  (case a21=>k_is);(case l21=>k_is);(case c21p=>k_is);(case k21=>k_is)
  (case a22=>k_is);(case l22=>k_is);(case c22p=>k_is);(case k22=>k_is)
  (case a23=>k_is);(case l23=>k_is);(case c23p=>k_is);(case k23=>k_is)
  (case a24=>k_is);(case l24=>k_is);(case c24p=>k_is);(case k24=>k_is)
  (case a25=>k_is);(case l25=>k_is);(case c25p=>k_is);(case k25=>k_is)
  (case a26=>k_is);(case l26=>k_is);(case c26p=>k_is);(case k26=>k_is)
  (case a27=>k_is);(case l27=>k_is);(case c27p=>k_is);(case k27=>k_is)
  (case a28=>k_is);(case l28=>k_is);(case c28p=>k_is);(case k28=>k_is)
  (case hCL=>kernel_rfl);(case hC16=>kernel_rfl);(case nPU=>decide);(case hdl9=>k_is)
  (case hdl11=>k_is);(case zM=>k_is);(case zA=>k_is);(case aS=>k_is)
  (case aT=>k_is);(case aTE=>k_is);(case aM1=>k_is);(case aM2=>k_is)
  (case aM3=>k_is);(case mI=>k_is);(case iI=>k_is);(case lI=>k_is)
  (case cIp=>k_is);(case kI=>k_is);(case mR=>k_is);(case iR=>k_is)
  (case lR=>k_is);(case cRp=>k_is);(case kR=>k_is);(case mL=>k_is)
  (case iL=>k_is);(case lL=>k_is);(case cLp=>k_is);(case kL=>k_is)
  (case pgS=>k_is);(case hdS=>k_is);(case poS=>k_is);(case saS=>k_is)
  (case mkS=>k_is);(case kcS=>k_is);(case n1S=>k_is);(case n2S=>k_is)
  (case n3S=>k_is);(case hCxc=>kernel_rfl);(case saT=>k_is);(case kpT=>k_is)
  (case inT=>k_is);(case ifX=>k_is);(case lX=>k_is);(case cXp=>k_is)
  (case kX=>k_is);(case neT=>k_is);(case xg1=>k_is);(case xg2=>k_is)
  (case xg3=>k_is);(case hCx4=>kernel_rfl);(case hCx5=>kernel_rfl);(case xg6=>k_is)
  (case xg7=>k_is);(case xg8=>k_is);(case hCke=>kernel_rfl);(case hCktt=>kernel_rfl)
  (case hCkb=>kernel_rfl);(case hCkm=>kernel_rfl);(case hCk1=>kernel_rfl);(case z1=>k_is)
  (case z2=>k_is);(case z3=>k_is);(case z4=>k_is);(case z5=>k_is)
  (case z6=>k_is);(case z7=>k_is);(case z8=>k_is);(case z9=>k_is)
  (case z10=>k_is);(case z11=>k_is);(case z12=>k_is);(case z13=>k_is)
  (case z14=>k_is);(case z15=>k_is)
#print axioms PySem.Challenge.cw_tintties_k64_whole_fewest_holds
