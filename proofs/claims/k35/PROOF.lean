import PyProof.Rows.All
import Wide.All
import OpenK.AllK
import Wide.FinOn
import Lean
import PyProof.EqAt
import PyProof.EqKinds
import PyProof.TupleCall
import PySem.SetTable
import PySem.SetOps
import PyProof.Rows.SetFrom
import PyProof.NeKinds
import PyProof.Rows.StrInSeq3
import PyProof.AttrMissHeap
import PyProof.Rows.SeqMore2
import PySem.Challenge.RW_tintties_k35_ways_refused
set_option Elab.async false
set_option linter.all false
set_option maxRecDepth 100000
set_option maxHeartbeats 4000000
namespace L2
open PySem PySem.Spec PyProof.Rows
abbrev Key:=Sum Int Str
def keyIs:Key->Value->Bool
 | .inl k,v=>Value.isInt k v
 | .inr x,v=>Value.isStrOf x v
def keyH(w:World):Key->Int
 | .inl k=>hashInt k
 | .inr x=>hashStr w x
theorem keyIs_shape:∀{k:Key}{v:Value},keyIs k v=true->(∃i t,k=Sum.inl i/\v=Value.int i t)\/(∃x t,k=Sum.inr x/\v=Value.str x t)
 | .inl i,v,h=>by
  obtain⟨t,e⟩:=Value.isInt_shape (k:=i) (v:=v) h
  exact .inl ⟨i,t,rfl,e⟩
 | .inr x,v,h=>by
  obtain⟨t,e⟩:=Value.isStrOf_shape (x:=x) (v:=v) h
  exact .inr ⟨x,t,rfl,e⟩
theorem keyIs_int(i:Int)(t:Tok):keyIs (.inl i) (.int i t)=true:=by simp[keyIs,Value.isInt]
theorem keyIs_str(x:Str)(t:Tok):keyIs (.inr x) (.str x t)=true:=by simp[keyIs,Value.isStrOf]
theorem key_ll(a b:Int):decide ((Sum.inl a:Key)=Sum.inl b)=(a==b):=by
 by_cases e:a=b
 ·subst e;simp
 ·have h:¬(Sum.inl a:Key)=Sum.inl b:=fun q=>e (Sum.inl.inj q)
  rw[decide_eq_false h]
  exact(beq_eq_false_iff_ne.mpr e).symm
theorem key_rr(a b:Str):decide ((Sum.inr a:Key)=Sum.inr b)=decide (a=b):=by
 by_cases e:a=b
 ·subst e;simp
 ·have h:¬(Sum.inr a:Key)=Sum.inr b:=fun q=>e (Sum.inr.inj q)
  rw[decide_eq_false h,decide_eq_false e]
theorem key_lr(a:Int)(b:Str):decide ((Sum.inl a:Key)=Sum.inr b)=false:=decide_eq_false (fun q=>nomatch q)
theorem key_rl(a:Str)(b:Int):decide ((Sum.inr a:Key)=Sum.inl b)=false:=decide_eq_false (fun q=>nomatch q)
def mixKind(prog:Program)(w:World):PySem.KeyKind prog w Key where
 is:=keyIs
 hash:=keyH w
 inj:=fun v a b ha hb=>by
  rcases keyIs_shape ha with⟨i,t,rfl,rfl⟩|⟨x,t,rfl,rfl⟩
  ·rcases keyIs_shape hb with⟨j,u,rfl,e⟩|⟨y,u,rfl,e⟩
   ·injection e with e1 _;rw[e1]
   ·exact nomatch e
  ·rcases keyIs_shape hb with⟨j,u,rfl,e⟩|⟨y,u,rfl,e⟩
   ·exact nomatch e
   ·injection e with e1 _;rw[e1]
 byValue:=fun k v h=>by
  rcases keyIs_shape h with⟨i,t,rfl,rfl⟩|⟨x,t,rfl,rfl⟩<;>rfl
 pyHash:=fun hv h=>by
  rcases keyIs_shape hv with⟨i,t,rfl,rfl⟩|⟨x,t,rfl,rfl⟩
  ·exact wpAny_pyHash_int h
  ·exact wpAny_pyHash_str h
 eqBool:=fun hu hv h=>by
  rcases keyIs_shape hu with⟨i,t,rfl,rfl⟩|⟨x,t,rfl,rfl⟩
  ·rcases keyIs_shape hv with⟨j,u,rfl,rfl⟩|⟨y,u,rfl,rfl⟩
   ·rw[key_ll]at h;exact wpAny_eqBool_int h
   ·rw[key_lr]at h;exact SeqAt.EqAt.int_str i t y u _ _ _ _ h
  ·rcases keyIs_shape hv with⟨j,u,rfl,rfl⟩|⟨y,u,rfl,rfl⟩
   ·rw[key_rl]at h;exact SeqAt.EqAt.str_int x t j u _ _ _ _ h
   ·rw[key_rr]at h;exact wpAny_eqBool_str h
 «strs»:=fun k x t v h=>by
  rcases keyIs_shape h with⟨i,u,rfl,e⟩|⟨y,u,rfl,e⟩
  ·exact nomatch e
  ·injection e with e1 _
   subst e1
   cases v<;>rfl
theorem mixKind_int(prog:Program)(w:World)(i:Int)(t:Tok):(mixKind prog w).is (.inl i) (.int i t)=true:=keyIs_int i t
theorem mixKind_str(prog:Program)(w:World)(x:Str)(t:Tok):(mixKind prog w).is (.inr x) (.str x t)=true:=keyIs_str x t
inductive V where
 |non|bl (b:Bool)|int (i:Int)|str (x:Str)|byt (b:Array UInt8)|flt (b:UInt64)|ref (a:Addr)|ty (n:String)
 deriving DecidableEq
def RelV:V->Value->Prop
 | .non,u=>u=Value.none
 | .bl b,u=>u=Value.bool b
 | .int i,u=>∃t,u=Value.int i t
 | .str x,u=>∃t,u=Value.str x t
 | .byt b,u=>∃t,u=Value.bytes b t
 | .flt b,u=>∃t,u=Value.float b t
 | .ref a,u=>u=Value.ref a
 | .ty n,u=>u=Value.type n
abbrev Vals:List V->List Value->Prop:=Paired RelV
theorem Vals.length{xs:List V}{us:List Value}(r:Vals xs us):xs.length=us.length:=Paired.length r
theorem Vals.get:∀{xs:List V}{us:List Value}{i:Nat}{x:V},Vals xs us->xs[i]?=some x->∃u,us[i]?=some u/\RelV x u
 |_,_,_,_,.nil,e=>by simp at e
 |_,_,0,_,.cons r _,e=>by simp at e;subst e;exact⟨_,rfl,r⟩
 |_,_,i+1,x,.cons _ t,e=>by
  obtain⟨u,h1,h2⟩:=Vals.get (i:=i) (x:=x) t (by simpa using e)
  exact⟨u,by simpa using h1,h2⟩
theorem Vals.set{x:V}{u:Value}(r:RelV x u):∀{xs:List V}{us:List Value}(i:Nat),Vals xs us->Vals (xs.set i x) (us.set i u)
 |_,_,_,.nil=> .nil
 |_,_,0,.cons _ t=> .cons r t
 |_,_,i+1,.cons q t=> .cons q (Vals.set r i t)
theorem Vals.append:∀{xs ys:List V}{us ws:List Value},Vals xs us->Vals ys ws->Vals (xs++ys) (us++ws)
 |_,_,_,_,.nil,s=>s
 |_,_,_,_,.cons r t,s=> .cons r (Vals.append t s)
theorem Vals.take:∀{xs:List V}{us:List Value}(n:Nat),Vals xs us->Vals (xs.take n) (us.take n)
 |_,_,0,_=> .nil
 |_,_,_+1,.nil=> .nil
 |_,_,n+1,.cons r t=> .cons r (Vals.take n t)
theorem Vals.drop:∀{xs:List V}{us:List Value}(n:Nat),Vals xs us->Vals (xs.drop n) (us.drop n)
 |_,_,0,r=>r
 |_,_,_+1,.nil=> .nil
 |_,_,n+1,.cons _ t=>Vals.drop n t
def RelO:Option V->Option Value->Prop
 |some v,some u=>RelV v u
 |none,none=>True
 |_,_=>False
def KV{κ:Type}:List (κ×V)->List (κ×Value)->Prop:=Paired fun(p:κ×V)(q:κ×Value)=>p.1=q.1/\RelV p.2 q.2
def kV:Key->V
 | .inl i=> .int i
 | .inr x=> .str x
inductive HO where
 |lst (xs:List V)
 |tup (xs:List V)
 |dK (kvs:List (Key×V))|dT (kvs:List (List Key×V))
 |set (S:Int->Bool) (n:Nat)
 |ins (C dx:Addr) (fs:List (Str×V))
 |own (x:Addr)
 |xd (fs:List (Str×V))
 |met (f x:Addr)
 |rng (lo hi:Int)
 |frz (o:Obj) (u:HO)
 |tbl (ps:Array Value)
 |ext (φ:Heap->Prop)
abbrev Hp:=Addr->Option HO
def upd(H:Hp)(a:Addr)(o:HO):Hp:=fun b=>if b=a then some o else H b
theorem upd_same{H:Hp}{a:Addr}{o:HO}:upd H a o a=some o:=by unfold upd;rw[if_pos rfl]
theorem upd_ne{H:Hp}{a b:Addr}{o:HO}(h:b≠a):upd H a o b=H b:=by unfold upd;rw[if_neg h]
theorem ne_of{H:Hp}{a b:Addr}{o u:HO}(h:H a=some o)(h':H b=some u)(d:o≠u):a≠b:=by
 intro e;subst e;rw[h]at h';exact d (Option.some.inj h')
theorem ne_of_none{H:Hp}{a b:Addr}{o:HO}(h:H a=some o)(h':H b=none):a≠b:=by
 intro e;subst e;rw[h]at h';cases h'
section
variable(P:Program)(w:World)
def ObjOk(H:Hp)(h:Heap)(a:Addr):HO->Prop
 | .lst xs=>xs.length<=sizeLine/\∃(its:List Value)(n:Nat),Vals xs its/\h.get? a=some {cls:= .type "list",data:= .seq its.toArray n}
 | .tup xs=>xs.length<=sizeLine/\∃its:List Value,Vals xs its/\IsTup h a its.toArray
 | .dK kvs=>kvs.length<=sizeLine/\(a==sysModules)=false/\∃vs,KV kvs vs/\h.DictOf (mixKind P w) a vs
 | .dT kvs=>kvs.length<=sizeLine/\(a==sysModules)=false/\∃xs:List (List Key×Addr×Value),
   Paired (fun(p:List Key×V)(q:List Key×Addr×Value)=>p.1=q.1/\H q.2.1=some (.tup (p.1.map kV))/\RelV p.2 q.2.2) kvs xs/\
   ∃o es ep,h.get? a=some o/\o.ExactDict/\o.data= .dict es ep/\es.toList=xs.map (entryOfKey (tupleKind (mixKind P w)))/\(xs.map (·.1)).Nodup
 | .set S n=>h.SetOf (intKind P w) a S n
 | .ins C dx fs=>H dx=some (.own a)/\fs.length<=1000/\dx≠a/\h.get? a=some (PySem.W.instObj C dx)/\
   ∃mA,h.Ns1 dx mA/\(∀f,RelO (fs.lookup f) (mA f))/\PySem.Within mA (fs.map (·.1))
 | .own _=>∃o,h.get? a=some o
 | .xd fs=>∃mA,h.Ns1 a mA/\∀f,RelO (fs.lookup f) (mA f)
 | .rng lo hi=>∃t u v,h.get? a=some {cls:= .type "range",data:= .fields #[.int lo t,.int hi u,.int 1 v]}
 | .frz o u=>h.get? a=some o/\ObjOk H h a u
 | .tbl ps=>h.get? a=some {cls:= .none,data:= .fields ps}
 | .met f x=>h.get? a=some (PySem.W.methodObj (.ref f) (.ref x))
 | .ext φ=>φ h/\(∃o,h.get? a=some o)/\∀h1 h2:Heap,φ h1->(∀o,h1.get? a=some o->h2.get? a=some o)->φ h2
def HOk(H:Hp)(h:Heap):Prop:=∀a o,H a=some o->ObjOk P w H h a o
end
section
variable{P:Program}{w:World}{H H':Hp}{h h':Heap}{a:Addr}{o:HO}
theorem ObjOk.lt(x:ObjOk P w H h a o):a<h.objs.size:=by
 cases o with
 |lst xs=>obtain⟨_,_,_,_,e⟩:=x;exact Heap.lt_size e
 |tup xs=>obtain⟨_,_,_,p⟩:=x;exact p.lt
 |dK kvs=>obtain⟨_,_,_,_,o,_,_,e,_⟩:=x;exact Heap.lt_size e
 |dT kvs=>obtain⟨_,_,_,_,o,_,_,e,_⟩:=x;exact Heap.lt_size e
 |set S n=>obtain⟨o,_,_,_,e,_⟩:=x;exact Heap.lt_size e
 |ins C dx fs=>obtain⟨_,_,_,e,_⟩:=x;exact Heap.lt_size e
 |own y=>obtain⟨_,e⟩:=x;exact Heap.lt_size e
 |xd fs=>obtain⟨_,⟨_,_,_,e,_⟩,_⟩:=x;exact Heap.lt_size e
 |rng lo hi=>obtain⟨_,_,_,e⟩:=x;exact Heap.lt_size e
 |frz ob u=>obtain⟨e,_⟩:=x;exact Heap.lt_size e
 |tbl ps=>exact Heap.lt_size (show h.get? a=some _ from x)
 |met f y=>exact Heap.lt_size (show h.get? a=some _ from x)
 |ext φ=>obtain⟨_,⟨_,e⟩,_⟩:=x;exact Heap.lt_size e
theorem Paired.mapP{α β:Type}{F G:α->β->Prop}:∀{l₁:List α}{l₂:List β},Paired F l₁ l₂->(∀a b,F a b->G a b)->Paired G l₁ l₂
 |_,_,.nil,_=> .nil
 |_,_,.cons r t,f=> .cons (f _ _ r) (Paired.mapP t f)
theorem ObjOk.stay(x:ObjOk P w H h a o)(k:∀b u,(b=a\/H b=some (.own a))->h.get? b=some u->h'.get? b=some u)
  (ho:∀b,H b=some (.own a)->H' b=some (.own a)) (ht:∀b xs,H b=some (.tup xs)->H' b=some (.tup xs)):ObjOk P w H' h' a o:=by
 induction o with
 |lst xs=>obtain⟨z,its,n,r,e⟩:=x;exact⟨z,its,n,r,k _ _ (.inl rfl) e⟩
 |tup xs=>obtain⟨z,its,r,ob,e,c⟩:=x;exact⟨z,its,r,ob,k _ _ (.inl rfl) e,c⟩
 |dK kvs=>obtain⟨z,y,vs,r,ob,es,ep,e,c⟩:=x;exact⟨z,y,vs,r,ob,es,ep,k _ _ (.inl rfl) e,c⟩
 |dT kvs=>
  obtain⟨z,y,xs,r,ob,es,ep,e,c⟩:=x
  exact⟨z,y,xs,Paired.mapP r fun p q z=>⟨z.1,ht _ _ z.2.1,z.2.2⟩,ob,es,ep,k _ _ (.inl rfl) e,c⟩
 |set S n=>obtain⟨ob,es,ep,t,e,c⟩:=x;exact⟨ob,es,ep,t,k _ _ (.inl rfl) e,c⟩
 |ins C dx fs=>
  obtain⟨d,z,ne,e,mA,⟨od,es,ep,e2,c⟩,r⟩:=x
  exact⟨ho _ d,z,ne,k _ _ (.inl rfl) e,mA,⟨od,es,ep,k _ _ (.inr d) e2,c⟩,r⟩
 |own y=>obtain⟨ob,e⟩:=x;exact⟨ob,k _ _ (.inl rfl) e⟩
 |xd fs=>obtain⟨mA,⟨od,es,ep,e,c⟩,r⟩:=x;exact⟨mA,⟨od,es,ep,k _ _ (.inl rfl) e,c⟩,r⟩
 |rng lo hi=>obtain⟨t,u,v,e⟩:=x;exact⟨t,u,v,k _ _ (.inl rfl) e⟩
 |frz ob u ih=>obtain⟨e,q⟩:=x;exact⟨k _ _ (.inl rfl) e,ih q⟩
 |tbl ps=>
  have e:h.get? a=some {cls:= .none,data:= .fields ps}:=x
  show h'.get? a=some {cls:= .none,data:= .fields ps}
  exact k a _ (.inl rfl) e
 |met f y=>
  have e:h.get? a=some (PySem.W.methodObj (.ref f) (.ref y)):=x
  show h'.get? a=some (PySem.W.methodObj (.ref f) (.ref y))
  exact k a _ (.inl rfl) e
 |ext φ=>obtain⟨p,⟨o,e⟩,st⟩:=x;exact⟨st _ _ p fun o q=>k _ _ (.inl rfl) q,⟨o,k _ _ (.inl rfl) e⟩,st⟩
theorem HOk.lt(x:HOk P w H h)(e:H a=some o):a<h.objs.size:=(x a o e).lt
theorem HOk.fresh(x:HOk P w H h)(e:h.objs.size<=a):H a=none:=by
 cases q:H a with
 |none=>rfl
 |some u=>exact absurd (Nat.lt_of_lt_of_le (x.lt q) e) (Nat.lt_irrefl _)
theorem HOk.kept(x:HOk P w H h)(k:∀b u,h.get? b=some u->h'.get? b=some u):HOk P w H h':=fun a o e=>
 (x a o e).stay (fun b u _ q=>k b u q) (fun _ q=>q) fun _ _ q=>q
theorem HOk.laid(x:HOk P w H h)(k:∀b u,h.get? b=some u->h'.get? b=some u) (hp:h.objs.size<=a) (new:ObjOk P w (upd H a o) h' a o):HOk P w (upd H a o) h':=fun b u e=>by
 have hn:=x.fresh hp
 by_cases hb:b=a
 ·subst hb;rw[upd_same]at e;cases e;exact new
 ·rw[upd_ne hb]at e
  exact(x b u e).stay (fun c v _ q=>k c v q) (fun c q=>by rw[upd_ne (ne_of_none q hn)];exact q) fun c xs q=>by rw[upd_ne (ne_of_none q hn)];exact q
end
def Rd(H:Hp)(a:Addr)(u:HO):Prop:=H a=some u\/∃o,H a=some (.frz o u)
theorem Rd.of{H:Hp}{a:Addr}{u:HO}(h:H a=some u):Rd H a u:= .inl h
theorem Rd.ok{P:Program}{w:World}{H:Hp}{h:Heap}{a:Addr}{u:HO}(r:Rd H a u)(x:HOk P w H h):ObjOk P w H h a u:=by
 rcases r with r|⟨o,r⟩
 ·exact x a u r
 ·obtain⟨_,q⟩:=x a _ r
  exact q
def Mut:Option HO->Prop
 |some (.lst _)=>True
 |some (.dK _)=>True
 |some (.dT _)=>True
 |some (.set _ _)=>True
 |some (.ins _ _ _)=>True
 |some (.ext _)=>True
 |_=>False
section
variable{P:Program}{w:World}{H:Hp}{h h':Heap}{x e:Addr}{o':HO}
theorem HOk.write(ok:HOk P w H h)(mu:Mut (H x))(he:e=x\/H e=some (.own x))(k:∀b u,b≠e->h.get? b=some u->h'.get? b=some u) (heo:∃u,h'.get? e=some u)
  (new:ObjOk P w (upd H x o') h' x o'):HOk P w (upd H x o') h':=fun b u q=>by
 have nown:∀c y,H c=some (.own y)->c≠x:=fun c y r z=>by subst z;rw[r]at mu;exact mu
 have ntup:∀c xs,H c=some (.tup xs)->c≠x:=fun c xs r z=>by subst z;rw[r]at mu;exact mu
 by_cases hb:b=x
 ·subst hb;rw[upd_same]at q;cases q;exact new
 ·rw[upd_ne hb]at q
  by_cases hbe:b=e
  ·have q':H b=some (.own x):=by
    rcases he with z|z
    ·exact absurd (hbe.trans z) hb
    ·rw[hbe];exact z
   rw[q]at q';cases q'
   obtain⟨v,hv⟩:=heo
   exact⟨v,by rw[hbe];exact hv⟩
  ·refine(ok b u q).stay (fun c v hc r=>k c v ?_ r) (fun c r=>by rw[upd_ne (nown c b r)];exact r) fun c xs r=>by rw[upd_ne (ntup c xs r)];exact r
   rcases hc with rfl|hc
   ·exact hbe
   ·rintro rfl
    rcases he with z|z
    ·exact nown c b hc z
    ·rw[hc]at z;cases z;exact hb rfl
end
structure Un(fs ex:List Addr)(H H':Hp)(h h':Heap):Prop where
 keep:∀b o,h.get? b=some o->H b=none->b ∉ fs->b ∉ ex->h'.get? b=some o
 slot:∀b o,h.get? b=some o->H b=none->b∈fs->b ∉ ex->∃sl,h'.get? b=some {o with slots:=sl}
 free:∀b o,h.get? b=some o->H b=none->b ∉ ex->H' b=none
 there:∀b o,h.get? b=some o->b ∉ ex->∃o',h'.get? b=some o'
 tups:∀b xs,H b=some (.tup xs)->H' b=some (.tup xs)
 frzs:∀b o u,H b=some (.frz o u)->H' b=some (.frz o u)
 tbls:∀b ps,H b=some (.tbl ps)->∃more,H' b=some (.tbl (ps++more))
section
variable{fs fs' ex ex':List Addr}{H H1 H2:Hp}{h h1 h2 h':Heap}{a x e:Addr}{o:HO}
theorem Un.any(u:Un fs ex H H1 h h1){b:Addr}{ob:Obj}(q:h.get? b=some ob)(n:H b=none)(hx:b ∉ ex):∃sl,h1.get? b=some {ob with slots:=sl}:=by
 by_cases hb:b∈fs
 ·exact u.slot b ob q n hb hx
 ·exact⟨ob.slots,u.keep b ob q n hb hx⟩
theorem Un.trans(a:Un fs ex H H1 h h1)(b:Un fs ex H1 H2 h1 h2):Un fs ex H H2 h h2 where
 keep:=fun c ob q n hc hx=>b.keep c ob (a.keep c ob q n hc hx) (a.free c ob q n hx) hc hx
 slot:=fun c ob q n hc hx=>by
  obtain⟨sl,e1⟩:=a.slot c ob q n hc hx
  obtain⟨sl',e2⟩:=b.slot c _ e1 (a.free c ob q n hx) hc hx
  exact⟨sl',e2⟩
 free:=fun c ob q n hx=>by
  obtain⟨o',e1⟩:=a.there c ob q hx
  exact b.free c o' e1 (a.free c ob q n hx) hx
 there:=fun c ob q hx=>by
  obtain⟨o',e1⟩:=a.there c ob q hx
  exact b.there c o' e1 hx
 tups:=fun c xs q=>b.tups c xs (a.tups c xs q)
 frzs:=fun c ob xs q=>b.frzs c ob xs (a.frzs c ob xs q)
 tbls:=fun c ps q=>by
  obtain⟨m1,e1⟩:=a.tbls c ps q
  obtain⟨m2,e2⟩:=b.tbls c _ e1
  exact⟨m1++m2,by rw[e2,Array.append_assoc]⟩
theorem Un.kept(k:∀b u,h.get? b=some u->h'.get? b=some u):Un fs ex H H h h':=
 ⟨fun b ob q _ _ _=>k b ob q,fun b ob q _ _ _=>⟨ob.slots,k b ob q⟩,fun _ _ _ n _=>n,fun b ob q _=>⟨ob,k b ob q⟩,fun _ _ q=>q,fun _ _ _ q=>q,fun _ ps q=>⟨#[],by rw[q];simp⟩⟩
theorem Un.refl:Un fs ex H H h h:=Un.kept fun _ _ q=>q
theorem Un.laid(k:∀b u,h.get? b=some u->h'.get? b=some u) (hp:h.objs.size<=a) (hn:H a=none):Un fs ex H (upd H a o) h h' where
 keep:=fun b u q _ _ _=>k b u q
 slot:=fun b u q _ _ _=>⟨u.slots,k b u q⟩
 free:=fun b u q n _=>by rw[upd_ne (Nat.ne_of_lt (Nat.lt_of_lt_of_le (Heap.lt_size q) hp))];exact n
 there:=fun b u q _=>⟨u,k b u q⟩
 tups:=fun b xs q=>by rw[upd_ne (ne_of_none q hn)];exact q
 frzs:=fun b u xs q=>by rw[upd_ne (ne_of_none q hn)];exact q
 tbls:=fun b ps q=>⟨#[],by rw[upd_ne (ne_of_none q hn),q];simp⟩
theorem Un.write(mu:Mut (H x))(he:e=x\/H e=some (.own x))(k:∀b u,b≠e->h.get? b=some u->h'.get? b=some u) (heo:∃u,h'.get? e=some u):Un fs ex H (upd H x o) h h':=by
 have hx:∀b,H b=none->b≠x:=fun b n z=>by subst z;rw[n]at mu;exact mu
 have hb:∀b,H b=none->b≠e:=fun b n z=>by
  subst z
  rcases he with r|r
  ·exact hx b n r
  ·rw[n]at r;cases r
 have hm:∀b u,H b=some u->¬Mut (some u)->b≠x:=fun b u q nm z=>by subst z;rw[q]at mu;exact nm mu
 refine⟨fun b u q n _ _=>k b u (hb b n) q,fun b u q n _ _=>⟨u.slots,k b u (hb b n) q⟩,fun b u q n _=>by rw[upd_ne (hx b n)];exact n,fun b u q _=>?_,
  fun b xs q=>by rw[upd_ne (hm b _ q fun z=>z)];exact q,fun b u xs q=>by rw[upd_ne (hm b _ q fun z=>z)];exact q,fun b ps q=>⟨#[],by rw[upd_ne (hm b _ q fun z=>z),q];simp⟩⟩
 by_cases hbe:b=e
 ·subst hbe;exact heo
 ·exact⟨u,k b u hbe q⟩
theorem Un.mono(u:Un fs ex H H1 h h1)(hs:∀b∈fs,b∈fs') (hx:∀b∈ex,b∈ex'):Un fs' ex' H H1 h h1:=
 ⟨fun b ob q n hb he=>u.keep b ob q n (fun z=>hb (hs b z)) fun z=>he (hx b z),fun _ _ q n _ he=>u.any q n fun z=>he (hx _ z),fun b ob q n he=>u.free b ob q n fun z=>he (hx b z),fun b ob q he=>u.there b ob q fun z=>he (hx b z),u.tups,u.frzs,u.tbls⟩
end
def trk(h:Heap)(H:Hp):List Addr:=(List.range h.objs.size).filter fun a=>(H a).isSome
def hidT(h:Heap)(H:Hp):Heap:=PySem.W.hideAll h (trk h H)
theorem hidT_size(h:Heap)(H:Hp):(hidT h H).objs.size=h.objs.size:=PySem.W.hideAll_size _ _
theorem hidT_get{h:Heap}{H:Hp}{b:Addr}{o:Obj}(e:h.get? b=some o)(n:H b=none):(hidT h H).get? b=some o:=
 PySem.W.hideAll_get _ e fun hm=>by
  have q:(H b).isSome=true:=(List.mem_filter.mp hm).2
  rw[n]at q;simp at q
theorem of_hidT{h:Heap}{H:Hp}{b:Addr}{o:Obj}(e:(hidT h H).get? b=some o):h.get? b=some o/\H b=none:=by
 have e':h.get? b=some o:=PySem.W.of_hideAll (trk h H) e
 refine⟨e',?_⟩
 cases q:H b with
 |none=>rfl
 |some x=>
  have hm:b∈trk h H:=List.mem_filter.mpr ⟨List.mem_range.mpr (Heap.lt_size e'),by simp[q]⟩
  have z:(hidT h H).get? b=none:=PySem.W.hideAll_none (trk h H) hm
  rw[z]at e;cases e
def allNews(g h:Heap)(L:Addr):List (Addr×Obj):=(List.range h.objs.size).filterMap fun a=>if a=L\/(g.get? a).isSome=true then none else(h.get? a).map fun o=>(a,o)
def rest(g h:Heap)(L d:Addr):List (Addr×Obj):=(allNews g h L).filter fun p=>decide (p.1≠d)
structure Mod(K:PySem.W.Frag)(mg:Str->Option Value)(base:Heap):Prop where
 kin:K.In base
 glob:base.Ns mainGlobals mg
 blt:∃mb,base.Ns builtinsNs mb/\∀x:Str,x≠"__name__"->mb x=bootBuiltins x
 nolimit:base.NoLimit
structure Cx where
 prog:Program
 w:World
 K:PySem.W.Frag
 mg:Str->Option Value
 base:Heap
 A:Around
 N:List Str
 s₀:Shared
 H₀:Hp
 env:Env
 outer:List Env
 stack:List Env
 ex:List Addr
 fn:Str->Bool
 calm:Bool
 pn:List (Addr×Obj)
 xe:Value->Shared->Prop
def frs(l:List Env):List Addr:=l.filterMap (·.frame)
abbrev Cx.fs(X:Cx):List Addr:=frs X.outer
def Vis(sc:Scope)(x:Str):Prop:=sc.names.lookup x=some .local\/sc.names.lookup x=some .cell\/sc.names.lookup x=some .free
def Loc(sc:Scope)(x:Str):Prop:=sc.names.lookup x=some .local\/sc.names.lookup x=some .cell
def Look(env:Env)(h:Heap)(m:Str->Option Value)(x:Str)(u:Value):Prop:=
 (env.kindOf x=some .local/\m x=some u)\/((env.kindOf x=some .cell\/env.kindOf x=some .free)/\∃c,env.cells.lookup x=some c/\h.IsCell c (some u))
structure Cx.Ok(X:Cx):Prop where
 mod:Mod X.K X.mg X.base
 kind:X.env.scope.kind= .function
 glob:X.env.globals=mainGlobals
 blt:X.env.builtins=builtinsNs
 above:X.s₀.heap.objs.size<=X.env.locals
 inj:∀x y c,X.env.cells.lookup x=some c->X.env.cells.lookup y=some c->x=y
 has:∀x,(X.env.kindOf x=some .cell\/X.env.kindOf x=some .free)->∃c,X.env.cells.lookup x=some c
 cab:∀x c,X.fn x=true->X.env.cells.lookup x=some c->X.s₀.heap.objs.size<=c
 hd:X.calm=true->X.A.handled=none
 frames:X.A.frames=some X.stack
 stk:X.stack=X.outer\/(X.stack=X.env::X.outer/\X.env.frame=some X.env.locals)
 exf:∀b∈X.ex,b≠X.env.locals/\∀x c,X.env.cells.lookup x=some c->c≠b
 bs:∀b o,X.base.get? b=some o->X.s₀.heap.get? b=some o/\X.H₀ b=none
 bsz:X.base.objs.size<=X.s₀.heap.objs.size
 noex:∀b o,X.base.get? b=some o->b ∉ X.ex
 exfs:∀b∈X.ex,b ∉ X.fs
 funs:X.s₀.heap.FunFrames X.base X.outer
 frf:∀b∈X.fs,X.H₀ b=none
structure Inv(X:Cx)(pins:List (Addr×Obj))(σ:List (Option V))(H:Hp)(s:Shared):Prop where
 ok:X.Ok
 os:s.os=X.s₀.os
 bare:AllBare s.gens
 base:Un X.fs X.ex X.H₀ H X.s₀.heap s.heap
 loc:∃m,s.heap.Ns X.env.locals m/\∀(i:Nat)(x:Str)(v:V),X.N[i]?=some x->σ[i]?=some (some v)->Vis X.env.scope x->∃u,RelV v u/\Look X.env s.heap m x u
 cell:∀x c,X.env.cells.lookup x=some c->∃v,s.heap.IsCell c v
 free:H X.env.locals=none
 freeC:∀x c,X.env.cells.lookup x=some c->H c=none
 pin:∀p∈X.pn++pins,s.heap.get? p.1=some p.2/\H p.1=none/\p.1≠X.env.locals/\p.1 ∉ X.fs/\∀v,p.2.data≠.cell v
 hok:HOk X.prog X.w H s.heap
 len:σ.length=X.N.length
section
variable{X:Cx}{pins:List (Addr×Obj)}{σ:List (Option V)}{H H':Hp}{s:Shared}{h':Heap}
theorem Cx.Ok.nofr(ok:X.Ok){b:Addr}{o:Obj}(e:X.base.get? b=some o):b ∉ X.fs:=fun hb=>by
 have:=(ok.funs.mem hb).1
 rw[e]at this;cases this
theorem Inv.bs(I:Inv X pins σ H s):∀b o,X.base.get? b=some o->s.heap.get? b=some o/\H b=none:=fun b o e=>
 ⟨I.base.keep b o (I.ok.bs b o e).1 (I.ok.bs b o e).2 (I.ok.nofr e) (I.ok.noex b o e),I.base.free b o (I.ok.bs b o e).1 (I.ok.bs b o e).2 (I.ok.noex b o e)⟩
theorem Inv.bk(I:Inv X pins σ H s):∀b o,X.base.get? b=some o->s.heap.get? b=some o:=fun b o e=>(I.bs b o e).1
theorem Inv.mod(I:Inv X pins σ H s):Mod X.K X.mg X.base:=I.ok.mod
theorem Inv.kIn(I:Inv X pins σ H s):X.K.In s.heap:=I.ok.mod.kin.keeps I.bk
theorem Inv.nolimit(I:Inv X pins σ H s):s.heap.NoLimit:=I.ok.mod.nolimit.keeps I.bk
theorem Inv.fr(I:Inv X pins σ H s):∃m,Fr X.base X.env.locals s.heap m:=
 let⟨m,hn,_⟩:=I.loc
 ⟨m,hn,I.bk,Nat.le_trans I.ok.bsz I.ok.above⟩
theorem Inv.lt(I:Inv X pins σ H s):X.env.locals<s.heap.objs.size:=let⟨_,hn,_⟩:=I.loc;hn.lt
theorem Inv.sz(I:Inv X pins σ H s):X.s₀.heap.objs.size<=s.heap.objs.size:=Nat.le_trans I.ok.above (Nat.le_of_lt I.lt)
theorem Inv.nofs(I:Inv X pins σ H s){a:Addr}(h:s.heap.objs.size<=a):a ∉ X.fs:=fun hb=>by
 obtain⟨_,o,ho,_⟩:=I.ok.funs.mem hb
 exact absurd (Nat.lt_of_lt_of_le (Heap.lt_size ho) (Nat.le_trans I.sz h)) (Nat.lt_irrefl _)
theorem Inv.cne(I:Inv X pins σ H s):∀x c,X.env.cells.lookup x=some c->c≠X.env.locals:=fun x c e z=>by
 obtain⟨v,o,ho,hd⟩:=I.cell x c e
 obtain⟨m,⟨o',es,ep,ho',hd',_⟩,_⟩:=I.loc
 rw[z,ho']at ho;cases ho;rw[hd']at hd;cases hd
theorem Inv.funs(I:Inv X pins σ H s):s.heap.FunFrames X.base X.outer:=by
 have all:∀(l:List Env),(∀b∈frs l,b∈X.fs)->X.s₀.heap.FunFrames X.base l->s.heap.FunFrames X.base l:=by
  intro l
  induction l with
  |nil=>intro _ _;trivial
  |cons env r ih=>
   intro hs hl
   obtain⟨hk,⟨L,o,hf,hn,ho,hd⟩,hr⟩:=hl
   have hL:L∈X.fs:=hs L (by unfold frs;rw[List.filterMap_cons,hf];exact List.mem_cons_self)
   obtain⟨sl,e⟩:=I.base.slot L o ho (I.ok.frf L hL) hL fun z=>I.ok.exfs L z hL
   exact⟨hk,⟨L,_,hf,hn,e,hd⟩,ih (fun b hb=>hs b (by unfold frs;rw[List.filterMap_cons,hf];exact List.mem_cons_of_mem _ hb)) hr⟩
 exact all X.outer (fun _ hb=>hb) I.ok.funs
theorem Inv.stack(I:Inv X pins σ H s):s.heap.FunFrames X.base X.stack:=by
 rcases I.ok.stk with e|⟨e,hf⟩
 ·rw[e];exact I.funs
 ·rw[e]
  obtain⟨m,hn,_⟩:=I.loc
  refine .cons (by rw[I.ok.kind];decide) hf hn ?_ I.funs
  exact Heap.get?_none_of_le (Nat.le_trans I.ok.bsz I.ok.above)
theorem Inv.stkSub(I:Inv X pins σ H s):∀b∈frs X.stack,b∈X.env.locals::X.fs:=fun b hb=>by
 rcases I.ok.stk with e|⟨e,hf⟩
 ·rw[e]at hb;exact List.mem_cons_of_mem _ hb
 ·rw[e]at hb
  unfold frs at hb
  rw[List.filterMap_cons,hf]at hb
  exact hb
theorem Inv.stkFree(I:Inv X pins σ H s):∀b∈frs X.stack,H b=none:=fun b hb=>by
 rcases List.mem_cons.mp (I.stkSub b hb)with e|hb
 ·rw[e];exact I.free
 ·obtain⟨_,o,ho,_⟩:=I.ok.funs.mem hb
  exact I.base.free b o ho (I.ok.frf b hb) fun z=>I.ok.exfs b z hb
theorem Inv.step{g':Array GenState}{t':Nat}{d':Drawn}{ch:List Addr}(I:Inv X pins σ H s)
  (hch:∀b∈ch,(b∈X.ex\/X.s₀.heap.objs.size<=b)/\b≠X.env.locals/\(∀x c,X.env.cells.lookup x=some c->c≠b)/\∀p∈X.pn++pins,p.1≠b)
  (keep:∀b o,b≠X.env.locals->b ∉ X.fs->b ∉ ch->s.heap.get? b=some o->H b=none->h'.get? b=some o)
  (slot:∀b o,b≠X.env.locals->b∈X.fs->b ∉ ch->s.heap.get? b=some o->H b=none->∃sl,h'.get? b=some {o with slots:=sl}) (free:∀b o,b ∉ ch->s.heap.get? b=some o->H b=none->H' b=none)
  (there:∀b o,b ∉ ch->s.heap.get? b=some o->∃o',h'.get? b=some o')
  (tups:∀b xs,H b=some (.tup xs)->H' b=some (.tup xs)) (frzs:∀b o u,H b=some (.frz o u)->H' b=some (.frz o u)) (tbls:∀b ps,H b=some (.tbl ps)->∃more,H' b=some (.tbl (ps++more)))
  (ns:∀m,s.heap.Ns X.env.locals m->h'.Ns X.env.locals m) (hok:HOk X.prog X.w H' h') (hg:AllBare g'):
  Inv X pins σ H' {s with heap:=h',gens:=g',drawn:=d',toks:=t'}:=by
 have neL:∀b o,X.s₀.heap.get? b=some o->b≠X.env.locals:=fun b o e=>Nat.ne_of_lt (Nat.lt_of_lt_of_le (Heap.lt_size e) I.ok.above)
 have neC:∀b o,X.s₀.heap.get? b=some o->b ∉ X.ex->b ∉ ch:=fun b o e hx hb=>by
  rcases(hch b hb).1 with z|z
  ·exact hx z
  ·exact absurd (Nat.lt_of_lt_of_le (Heap.lt_size e) z) (Nat.lt_irrefl _)
 have cellK:∀x c,X.env.cells.lookup x=some c->∀v,s.heap.IsCell c v->h'.IsCell c v:=fun x c e v⟨o,ho,hd⟩=>by
  have nch:c ∉ ch:=fun z=>(hch c z).2.2.1 x c e rfl
  by_cases hc:c∈X.fs
  ·obtain⟨sl,q⟩:=slot c o (I.cne x c e) hc nch ho (I.freeC x c e)
   exact⟨_,q,hd⟩
  ·exact⟨o,keep c o (I.cne x c e) hc nch ho (I.freeC x c e),hd⟩
 refine⟨I.ok,I.os,hg,⟨fun b o e n hb hx=>?_,fun b o e n hb hx=>?_,fun b o e n hx=>?_,fun b o e hx=>?_,fun b xs e=>tups b xs (I.base.tups b xs e),fun b o xs e=>frzs b o xs (I.base.frzs b o xs e),fun b ps e=>?_⟩,?_,fun x c e=>?_,?_,fun x c e=>?_,fun p hp=>?_,hok,I.len⟩
 ·exact keep b o (neL b o e) hb (neC b o e hx) (I.base.keep b o e n hb hx) (I.base.free b o e n hx)
 ·obtain⟨sl,e1⟩:=I.base.slot b o e n hb hx
  obtain⟨sl',e2⟩:=slot b _ (neL b o e) hb (neC b o e hx) e1 (I.base.free b o e n hx)
  exact⟨sl',e2⟩
 ·obtain⟨o',e1⟩:=I.base.there b o e hx
  exact free b o' (neC b o e hx) e1 (I.base.free b o e n hx)
 ·obtain⟨o',e1⟩:=I.base.there b o e hx
  exact there b o' (neC b o e hx) e1
 ·obtain⟨m1,e1⟩:=I.base.tbls b ps e
  obtain⟨m2,e2⟩:=tbls b _ e1
  exact⟨m1++m2,by rw[e2,Array.append_assoc]⟩
 ·obtain⟨m,hn,hl⟩:=I.loc
  refine⟨m,ns m hn,fun i x v e1 e2 e3=>?_⟩
  obtain⟨u,r,l⟩:=hl i x v e1 e2 e3
  refine⟨u,r,?_⟩
  rcases l with l|⟨k,c,e,z⟩
  ·exact .inl l
  ·exact .inr ⟨k,c,e,cellK x c e _ z⟩
 ·obtain⟨v,z⟩:=I.cell x c e
  exact⟨v,cellK x c e v z⟩
 ·obtain⟨m,⟨o,_,_,ho,_⟩,_⟩:=I.loc
  exact free _ o (fun z=>(hch _ z).2.1 rfl) ho I.free
 ·obtain⟨v,o,ho,hd⟩:=I.cell x c e
  exact free c o (fun z=>(hch c z).2.2.1 x c e rfl) ho (I.freeC x c e)
 ·obtain⟨e,n,ne,nf,d⟩:=I.pin p hp
  have nch:p.1 ∉ ch:=fun z=>(hch p.1 z).2.2.2 p hp rfl
  exact⟨keep p.1 p.2 ne nf nch e n,free p.1 p.2 nch e n,ne,nf,d⟩
theorem Inv.un{t':Nat}(I:Inv X pins σ H s)(u:Un X.fs [] H H' s.heap h')(hok:HOk X.prog X.w H' h'):Inv X pins σ H' {s with heap:=h',toks:=t'}:=by
 obtain⟨m,⟨o,es,ep,ho,r⟩,_⟩:=id I.loc
 obtain⟨sl,hL⟩:=u.any ho I.free (by simp)
 exact I.step (g':=s.gens) (d':=s.drawn) (ch:=[]) (fun _ z=>nomatch z) (fun b o _ hb _ e n=>u.keep b o e n hb (by simp)) (fun b o _ hb _ e n=>u.slot b o e n hb (by simp)) (fun b o _ e n=>u.free b o e n (by simp)) (fun b o _ e=>u.there b o e (by simp)) u.tups u.frzs u.tbls (fun m' hm=>by
  obtain⟨o',es',ep',ho',r'⟩:=hm
  rw[ho]at ho';cases ho'
  exact⟨_,es',ep',hL,r'⟩) hok I.bare
theorem Inv.call{g':Array GenState}{t':Nat}{d':Drawn}{ch:List Addr}(I:Inv X pins σ H s)(u:Un (frs X.stack) ch H H' s.heap h')(hok:HOk X.prog X.w H' h')(hg:AllBare g')
  (hch:∀b∈ch,(b∈X.ex\/X.s₀.heap.objs.size<=b)/\b≠X.env.locals/\(∀x c,X.env.cells.lookup x=some c->c≠b)/\∀p∈X.pn++pins,p.1≠b):
  Inv X pins σ H' {s with heap:=h',gens:=g',drawn:=d',toks:=t'}:=by
 obtain⟨m,⟨o,es,ep,ho,r⟩,_⟩:=id I.loc
 obtain⟨sl,hL⟩:=u.any ho I.free fun z=>(hch _ z).2.1 rfl
 exact I.step (ch:=ch) hch (fun b o hL hb hc e n=>u.keep b o e n (fun z=>(List.mem_cons.mp (I.stkSub b z)).elim hL hb) hc) (fun b o _ _ hc e n=>u.any e n hc) (fun b o hc e n=>u.free b o e n hc) (fun b o hc e=>u.there b o e hc) u.tups u.frzs u.tbls (fun m' hm=>by
  obtain⟨o',es',ep',ho',r'⟩:=hm
  rw[ho]at ho';cases ho'
  exact⟨_,es',ep',hL,r'⟩) hok hg
theorem Inv.turned{t':Nat}{it:Addr}(I:Inv X pins σ H s)(k:∀b o,b≠it->s.heap.get? b=some o->h'.get? b=some o) (hn:H it=none) (hL:it≠X.env.locals)
  (h1:it∈X.ex\/X.s₀.heap.objs.size<=it) (h2:∀x c,X.env.cells.lookup x=some c->c≠it) (h3:∀p∈X.pn++pins,p.1≠it):Inv X pins σ H {s with heap:=h',toks:=t'}:=by
 have nit:∀b u,H b=some u->b≠it:=fun b u e z=>by rw[z,hn]at e;cases e
 refine I.step (g':=s.gens) (d':=s.drawn) (ch:=[it]) (fun b hb=>?_) (fun b o _ _ hc e _=>k b o (fun z=>hc (by simp[z])) e) (fun b o _ _ hc e _=>⟨o.slots,k b o (fun z=>hc (by simp[z])) e⟩) (fun _ _ _ _ n=>n)
  (fun b o hc e=>⟨o,k b o (fun z=>hc (by simp[z])) e⟩) (fun _ _ e=>e) (fun _ _ _ e=>e) (fun b ps e=>⟨#[],by rw[e];simp⟩) (fun m hm=>?_) (fun b u e=>?_) I.bare
 ·have e:b=it:=by simpa using hb
  subst e
  exact⟨h1,hL,h2,h3⟩
 ·obtain⟨o,es,ep,ho,r⟩:=hm
  exact⟨o,es,ep,k _ o (Ne.symm hL) ho,r⟩
 ·refine(I.hok b u e).stay (fun c v hc q=>k c v ?_ q) (fun _ q=>q) fun _ _ q=>q
  rcases hc with z|z
  ·rw[z];exact nit b u e
  ·exact nit c _ z
theorem Inv.tok(I:Inv X pins σ H s)(t:Nat):Inv X pins σ H {s with toks:=t}:=I.un (h':=s.heap) (t':=t) Un.refl I.hok
theorem Inv.kept{t':Nat}(I:Inv X pins σ H s)(k:∀b u,s.heap.get? b=some u->h'.get? b=some u):Inv X pins σ H {s with heap:=h',toks:=t'}:=I.un (Un.kept k) (I.hok.kept k)
theorem Inv.laid{a:Addr}{o:HO}{t':Nat}(I:Inv X pins σ H s)(k:∀b u,s.heap.get? b=some u->h'.get? b=some u) (hp:s.heap.objs.size<=a) (new:ObjOk X.prog X.w (upd H a o) h' a o):
  Inv X pins σ (upd H a o) {s with heap:=h',toks:=t'}:=I.un (Un.laid k hp (I.hok.fresh hp)) (I.hok.laid k hp new)
theorem Inv.write{x e:Addr}{o:HO}{t':Nat}(I:Inv X pins σ H s)(mu:Mut (H x))(he:e=x\/H e=some (.own x))(k:∀b u,b≠e->s.heap.get? b=some u->h'.get? b=some u) (heo:∃u,h'.get? e=some u)
  (new:ObjOk X.prog X.w (upd H x o) h' x o):Inv X pins σ (upd H x o) {s with heap:=h',toks:=t'}:=I.un (Un.write mu he k heo) (I.hok.write mu he k heo new)
theorem Inv.pins_of{pins':List (Addr×Obj)}(I:Inv X pins σ H s)(h:∀p∈pins',s.heap.get? p.1=some p.2/\H p.1=none/\p.1≠X.env.locals/\p.1 ∉ X.fs/\∀v,p.2.data≠.cell v):Inv X pins' σ H s:=
 ⟨I.ok,I.os,I.bare,I.base,I.loc,I.cell,I.free,I.freeC,fun p hp=>(List.mem_append.mp hp).elim (fun z=>I.pin p (List.mem_append_left _ z)) (h p),I.hok,I.len⟩
theorem nodup_ix{N:List Str}(hN:N.Nodup){i j:Nat}{x:Str}(a:N[i]?=some x)(b:N[j]?=some x):i=j:=by
 obtain⟨h1,e1⟩:=List.getElem?_eq_some_iff.mp a
 obtain⟨h2,e2⟩:=List.getElem?_eq_some_iff.mp b
 exact(List.getElem_inj hN).mp (e1.trans e2.symm)
theorem store_ok2{M:Model}{A:Around}{E:Value->Shared->Prop}{i:Nat}{x:Str}{v:V}{u:Value}{Q:Unit->Shared->Prop}(I:Inv X pins σ H s)(hN:X.N.Nodup)(hi:X.N[i]?=some x)(hx:Loc X.env.scope x)(r:RelV v u)
  (h:∀s',Inv X pins (σ.set i (some v)) H s'->(∃a,Heap.SameBut a s.heap s'.heap/\(a=X.env.locals\/X.env.cells.lookup x=some a))->Q () s') (hf:X.fn x=true\/X.env.scope.names.lookup x=some .local:=by first|exact .inl rfl|exact .inr rfl|assumption):wpAny M A (storeName X.env x u) Q E s:=by
 obtain⟨m,hn,hl⟩:=id I.loc
 have hcls:(X.env.scope.kind== .class||(X.env.scope.kind== .module&&X.env.locals !=X.env.globals))=false:=by rw[I.ok.kind];rfl
 have hiσ:i<σ.length:=by rw[I.len];exact(List.getElem?_eq_some_iff.mp hi).1
 have cne:=I.cne
 have tracked:∀{a:Addr}{h':Heap},(∃o,s.heap.get? a=some o/\H a=none)->Heap.SameBut a s.heap h'->HOk X.prog X.w H h':=fun{a h'} ha hs b ob e=>by
  obtain⟨_,_,hfree⟩:=ha
  refine(I.hok b ob e).stay (fun c w' hc q=>(hs.2 c ?_).trans q) (fun _ q=>q) fun _ _ q=>q
  rintro rfl
  rcases hc with rfl|hc
  ·rw[hfree]at e;cases e
  ·rw[hfree]at hc;cases hc
 rcases hx with hk|hk
 ·refine wpAny_storeName_local hk hn (fun h' hn' hs=>?_) hcls
  obtain⟨oL,_,_,hoL,_⟩:=id hn
  refine h _ ⟨I.ok,I.os,I.bare,⟨fun b o e n hb hx=>?_,fun b o e n hb hx=>?_,I.base.free,fun b o e hx=>?_,I.base.tups,I.base.frzs,I.base.tbls⟩,⟨_,hn',fun j y v' e1 e2 e3=>?_⟩,fun y c e=>?_,I.free,I.freeC,fun p hp=>?_,tracked ⟨oL,hoL,I.free⟩ hs,by simpa using I.len⟩ ⟨_,hs,.inl rfl⟩
  ·exact(hs.2 b (Nat.ne_of_lt (Nat.lt_of_lt_of_le (Heap.lt_size e) I.ok.above))).trans (I.base.keep b o e n hb hx)
  ·obtain⟨sl,e1⟩:=I.base.slot b o e n hb hx
   exact⟨sl,(hs.2 b (Nat.ne_of_lt (Nat.lt_of_lt_of_le (Heap.lt_size e) I.ok.above))).trans e1⟩
  ·obtain⟨o',e1⟩:=I.base.there b o e hx
   exact⟨o',(hs.2 b (Nat.ne_of_lt (Nat.lt_of_lt_of_le (Heap.lt_size e) I.ok.above))).trans e1⟩
  ·by_cases hj:j=i
   ·subst hj
    rw[hi]at e1;cases e1
    rw[List.getElem?_set_self hiσ]at e2
    cases e2
    exact⟨u,r,.inl ⟨hk,by simp⟩⟩
   ·rw[List.getElem?_set_ne (Ne.symm hj)]at e2
    obtain⟨u',r',q⟩:=hl j y v' e1 e2 e3
    refine⟨u',r',?_⟩
    rcases q with⟨k,e⟩|⟨k,c,e,z⟩
    ·refine .inl ⟨k,?_⟩
     have:y≠x:=fun e=>hj (nodup_ix hN e1 (e▸hi))
     simp[this,e]
    ·exact .inr ⟨k,c,e,z.sameBut hs (cne y c e)⟩
  ·obtain⟨w',z⟩:=I.cell y c e
   exact⟨w',z.sameBut hs (cne y c e)⟩
  ·obtain⟨e,n,ne,nf,d⟩:=I.pin p hp
   exact⟨(hs.2 p.1 ne).trans e,n,ne,nf,d⟩
 ·have hfn:X.fn x=true:=by
   rcases hf with z|z
   ·exact z
   ·rw[z]at hk;cases hk
  obtain⟨c,hc⟩:=I.ok.has x (.inl hk)
  obtain⟨w',z⟩:=I.cell x c hc
  refine wpAny_storeName_cell I.ok.kind hk hc z (fun h' hc' hs=>?_)
  obtain⟨oc,hoc,hocd⟩:=id z
  refine h {s with heap:=h'} ⟨I.ok,I.os,I.bare,⟨fun b o e n hb hx=>?_,fun b o e n hb hx=>?_,I.base.free,fun b o e hx=>?_,I.base.tups,I.base.frzs,I.base.tbls⟩,⟨m,hn.sameBut hs (Ne.symm (cne x c hc)),fun j y v' e1 e2 e3=>?_⟩,fun y c' e=>?_,I.free,I.freeC,fun p hp=>?_,tracked ⟨oc,hoc,I.freeC x c hc⟩ hs,by simpa using I.len⟩ ⟨c,hs,.inr hc⟩
  ·exact(hs.2 b (Nat.ne_of_lt (Nat.lt_of_lt_of_le (Heap.lt_size e) (I.ok.cab x c hfn hc)))).trans (I.base.keep b o e n hb hx)
  ·obtain⟨sl,e1⟩:=I.base.slot b o e n hb hx
   exact⟨sl,(hs.2 b (Nat.ne_of_lt (Nat.lt_of_lt_of_le (Heap.lt_size e) (I.ok.cab x c hfn hc)))).trans e1⟩
  ·obtain⟨o',e1⟩:=I.base.there b o e hx
   exact⟨o',(hs.2 b (Nat.ne_of_lt (Nat.lt_of_lt_of_le (Heap.lt_size e) (I.ok.cab x c hfn hc)))).trans e1⟩
  ·by_cases hj:j=i
   ·subst hj
    rw[hi]at e1;cases e1
    rw[List.getElem?_set_self hiσ]at e2
    cases e2
    exact⟨u,r,.inr ⟨.inl hk,c,hc,hc'⟩⟩
   ·rw[List.getElem?_set_ne (Ne.symm hj)]at e2
    obtain⟨u',r',q⟩:=hl j y v' e1 e2 e3
    refine⟨u',r',?_⟩
    rcases q with q|⟨k,c',e,z'⟩
    ·exact .inl q
    ·refine .inr ⟨k,c',e,z'.sameBut hs ?_⟩
     rintro rfl
     exact hj (nodup_ix hN e1 (I.ok.inj _ _ _ e hc▸hi))
  ·by_cases hcc:c'=c
   ·subst hcc;exact⟨_,hc'⟩
   ·obtain⟨w2,z2⟩:=I.cell y c' e
    exact⟨w2,z2.sameBut hs hcc⟩
  ·obtain⟨e,n,ne,nf,d⟩:=I.pin p hp
   refine⟨(hs.2 p.1 ?_).trans e,n,ne,nf,d⟩
   intro q
   rw[q,hoc]at e
   have q':oc=p.2:=Option.some.inj e
   exact d w' (by rw[<-q'];exact hocd)
theorem store_ok{M:Model}{A:Around}{E:Value->Shared->Prop}{i:Nat}{x:Str}{v:V}{u:Value}{Q:Unit->Shared->Prop}(I:Inv X pins σ H s)(hN:X.N.Nodup)(hi:X.N[i]?=some x)(hx:Loc X.env.scope x)(r:RelV v u)
  (h:∀s',Inv X pins (σ.set i (some v)) H s'->Q () s') (hf:X.fn x=true\/X.env.scope.names.lookup x=some .local:=by first|exact .inl rfl|exact .inr rfl|assumption):wpAny M A (storeName X.env x u) Q E s:=
 store_ok2 I hN hi hx r (fun s' I' _=>h s' I') hf
theorem Inv.call'{s':Shared}{ch:List Addr}(I:Inv X pins σ H s)(ho:s'.os=s.os)(u:Un (frs X.stack) ch H H' s.heap s'.heap)(hok:HOk X.prog X.w H' s'.heap)(hg:AllBare s'.gens)
  (hch:∀b∈ch,(b∈X.ex\/X.s₀.heap.objs.size<=b)/\b≠X.env.locals/\(∀x c,X.env.cells.lookup x=some c->c≠b)/\∀p∈X.pn++pins,p.1≠b):Inv X pins σ H' s':=by
 obtain⟨h',g',d',t',o'⟩:=s'
 have e:o'=s.os:=ho
 subst e
 exact I.call (g':=g') (t':=t') (d':=d') u hok hg hch
end
abbrev XK:=Value->Option Addr->Hp->Prop
abbrev St:=List (Option V)
abbrev VK:=V->Hp->Prop
abbrev TE:=St->Hp->VK->Prop
abbrev TT:=St->Hp->(Bool->Hp->Prop)->Prop
abbrev TA:=St->Hp->(List V->Hp->Prop)->Prop
structure Ends where
 nx:St->Hp->Prop
 rt:VK
 bk:St->Hp->Prop:=fun _ _=>False
 ct:St->Hp->Prop:=fun _ _=>False
abbrev TS:=Ends->St->Hp->Prop
def EP(X:Cx)(pins:List (Addr×Obj))(σ:St)(Q:VK)(u:Value)(s':Shared):Prop:=∃v H',Inv X pins σ H' s'/\RelV v u/\Q v H'
def TP(X:Cx)(pins:List (Addr×Obj))(σ:St)(Q:Bool->Hp->Prop)(b:Bool)(s':Shared):Prop:=∃H',Inv X pins σ H' s'/\Q b H'
def AP(X:Cx)(pins:List (Addr×Obj))(σ:St)(Q:List V->Hp->Prop)(us:List Value)(s':Shared):Prop:=∃vs H',Inv X pins σ H' s'/\Vals vs us/\Q vs H'
def SP(X:Cx)(pins:List (Addr×Obj))(D:Ends)(f:Flow)(s':Shared):Prop:=
 match f with
 | .next=>∃σ' H',Inv X pins σ' H' s'/\D.nx σ' H'
 | .brk=>∃σ' H',Inv X pins σ' H' s'/\D.bk σ' H'
 | .cont=>∃σ' H',Inv X pins σ' H' s'/\D.ct σ' H'
 | .ret u=>∃v σ' H',Inv X pins σ' H' s'/\RelV v u/\D.rt v H'
def PE(X:Cx)(e:Expr)(t:TE):Prop:=
 ∀(pins:List (Addr×Obj))(s:Shared)(σ:St)(H:Hp)(Q:VK),Inv X pins σ H s->t σ H Q->wpAny (model X.prog X.w) X.A (eval e X.env) (EP X pins σ Q) X.xe s
def PT(X:Cx)(e:Expr)(t:TT):Prop:=
 ∀(pins:List (Addr×Obj))(s:Shared)(σ:St)(H:Hp)(Q:Bool->Hp->Prop),Inv X pins σ H s->t σ H Q->wpAny (model X.prog X.w) X.A (isTrue e X.env (eval e X.env)) (TP X pins σ Q) X.xe s
def PW(X:Cx)(e:Expr)(t:TT):Prop:=
 ∀(whole:Sem Value)(pins:List (Addr×Obj))(s:Shared)(σ:St)(H:Hp)(Q:Bool->Hp->Prop),Inv X pins σ H s->t σ H Q->wpAny (model X.prog X.w) X.A (isTrue e X.env whole) (TP X pins σ Q) X.xe s
theorem PW.pt{X:Cx}{e:Expr}{t:TT}(h:PW X e t):PT X e t:=h _
def PA(X:Cx)(es:List Expr)(t:TA):Prop:=
 ∀(pos:Pos)(pins:List (Addr×Obj))(s:Shared)(σ:St)(H:Hp)(Q:List V->Hp->Prop),Inv X pins σ H s->t σ H Q->wpAny (model X.prog X.w) X.A (spliced (backTo pos (starEach es X.env))) (AP X pins σ Q) X.xe s
def PS(X:Cx)(st:Stmt)(t:TS):Prop:=
 ∀(pins:List (Addr×Obj))(s:Shared)(σ:St)(H:Hp)(D:Ends),Inv X pins σ H s->t D σ H->wpAny (model X.prog X.w) X.A (exec st X.env) (SP X pins D) X.xe s
def PSs(X:Cx)(st:List Stmt)(t:TS):Prop:=
 ∀(pins:List (Addr×Obj))(s:Shared)(σ:St)(H:Hp)(D:Ends),Inv X pins σ H s->t D σ H->wpAny (model X.prog X.w) X.A (execs st X.env) (SP X pins D) X.xe s
theorem thn{α:Type}{t:Sem α}{Q Q':α->Shared->Prop}{M:Model}{A:Around}{E:Value->Shared->Prop}{s:Shared}(h:wpAny M A t Q E s)(hQ:∀a s,Q a s->Q' a s):wpAny M A t Q' E s:=wpAny_mono h hQ fun _ _ x=>x
section
variable{X:Cx}
theorem bin{a b:Expr}{ta tb:TE}(ha:PE X a ta)(hb:PE X b tb){pins:List (Addr×Obj)}{s:Shared}{σ:St}{H:Hp}{R:V->V->Hp->Prop}(I:Inv X pins σ H s)(h:ta σ H fun x H1=>tb σ H1 fun y H2=>R x y H2)
  {α:Type} {Q:α->Shared->Prop} {f:Value->Value->Sem α}
  (hf:∀v u s2 x y H2,Inv X pins σ H2 s2->RelV x v->RelV y u->R x y H2->wpAny (model X.prog X.w) X.A (f v u) Q X.xe s2):
  wpAny (model X.prog X.w) X.A (eval a X.env) (fun v s₁=>wpAny (model X.prog X.w) X.A (eval b X.env) (fun u s₂=>wpAny (model X.prog X.w) X.A (f v u) Q X.xe s₂) X.xe s₁) X.xe s:=by
 refine thn (ha pins s σ H _ I h) fun v s1⟨x,H1,I1,r1,q1⟩=>?_
 refine thn (hb pins s1 σ H1 _ I1 q1) fun u s2⟨y,H2,I2,r2,q2⟩=>?_
 exact hf v u s2 x y H2 I2 r1 r2 q2
def tVar(i:Nat):TE:=fun σ H Q=>∃v,σ[i]?=some (some v)/\Q v H
def tC(v:V):TE:=fun _ H Q=>Q v H
theorem pe_var{i:Nat}{x:Str}{pos:Pos}(hN:X.N[i]?=some x)(hv:Vis X.env.scope x)(hd:(x==("__debug__":Str))=false:=by decide)(hcd:(x==("__classdict__":Str))=false:=by decide):PE X (.Name x pos) (tVar i):=by
 intro pins s σ H Q I h
 obtain⟨v,e,h⟩:=h
 obtain⟨m,hn,hl⟩:=I.loc
 obtain⟨u,r,l⟩:=hl i x v hN e hv
 have fin:EP X pins σ Q u s:=⟨v,H,I,r,h⟩
 rcases l with⟨hk,hm⟩|⟨hk,c,hc,hcell⟩
 ·exact wpAny_Name (wpAny_loadName_local I.ok.kind hk hn hm fin) hd
 ·rcases hk with hk|hk
  ·exact wpAny_Name (wpAny_loadName_cell I.ok.kind hk hc hcell fin) hd
  ·exact wpAny_Name (wpAny_loadName_free I.ok.kind hk hc hcell fin hcd) hd
theorem pe_int{i j pos}:PE X (.Constant (.int i) j pos) (tC (.int i)):=fun _ _ _ H _ I h=>wpAny_Constant_int ⟨.int i,H,I.tok _,⟨_,rfl⟩,h⟩
theorem pe_bl{b j pos}:PE X (.Constant (.bool b) j pos) (tC (.bl b)):=fun _ _ _ H _ I h=>Constant_bool ⟨.bl b,H,I,rfl,h⟩
theorem pe_non{j pos}:PE X (.Constant .none j pos) (tC .non):=fun _ _ _ H _ I h=>Constant_none ⟨.non,H,I,rfl,h⟩
theorem pe_str{x j pos}:PE X (.Constant (.str x) j pos) (tC (.str x)):=fun _ _ _ H _ I h=>Calls.Constant_str ⟨.str x,H,I.tok _,⟨_,rfl⟩,h⟩
def Gl(X:Cx)(x:Str):Prop:=X.env.kindOf x=some .globalImplicit
theorem ld_glob{E:Value->Shared->Prop}{pins:List (Addr×Obj)}{s:Shared}{σ:St}{H:Hp}{x:Str}{u:Value}{pos:Pos}{Q:Value->Shared->Prop}(I:Inv X pins σ H s)(hg:Gl X x)(hm:X.mg x=some u)(h:Q u s)
  (hd:(x==("__debug__":Str))=false:=by decide):wpAny (model X.prog X.w) X.A (eval (.Name x pos) X.env) Q E s:=
 Calls.Name_function_global I.ok.kind hg (Calls.loadGlobal_global (by rw[I.ok.glob];exact I.mod.glob.keeps I.bk) hm h) hd
theorem ld_blt{E:Value->Shared->Prop}{pins:List (Addr×Obj)}{s:Shared}{σ:St}{H:Hp}{x:Str}{u:Value}{pos:Pos}{Q:Value->Shared->Prop}(I:Inv X pins σ H s)(hg:Gl X x)(hm:X.mg x=none)(hv:bootBuiltins x=some u)(h:Q u s)
  (hn:x≠"__name__":=by decide)(hd:(x==("__debug__":Str))=false:=by decide):wpAny (model X.prog X.w) X.A (eval (.Name x pos) X.env) Q E s:=by
 obtain⟨mb,h1,h2⟩:=I.mod.blt
 exact Calls.Name_function_global I.ok.kind hg (Calls.loadGlobal_builtin (by rw[I.ok.glob];exact I.mod.glob.keeps I.bk) hm (by rw[I.ok.blt];exact h1.keeps I.bk) ((h2 x hn).trans hv) h) hd
theorem pe_glob{x:Str}{v:V}{u:Value}{pos:Pos}(hg:Gl X x)(hm:X.mg x=some u)(r:RelV v u)(hd:(x==("__debug__":Str))=false:=by decide):PE X (.Name x pos) (tC v):=
 fun _ _ _ H _ I h=>ld_glob I hg hm ⟨v,H,I,r,h⟩ hd
theorem pe_bltn{x:Str}{v:V}{u:Value}{pos:Pos}(hg:Gl X x)(hm:X.mg x=none)(hv:bootBuiltins x=some u)(r:RelV v u)(hn:x≠"__name__":=by decide)(hd:(x==("__debug__":Str))=false:=by decide):PE X (.Name x pos) (tC v):=
 fun _ _ _ H _ I h=>ld_blt I hg hm hv ⟨v,H,I,r,h⟩ hn hd
variable{a b:Expr}{ta tb:TE}{pos:Pos}
def PC(X:Cx)(op:CmpOp)(a b:Expr)(t:TE):Prop:=
 ∀(pins:List (Addr×Obj))(s:Shared)(σ:St)(H:Hp)(Q:VK),Inv X pins σ H s->t σ H Q->
  wpAny (model X.prog X.w) X.A (eval a X.env) (fun v s₁=>wpAny (model X.prog X.w) X.A (eval b X.env) (fun u s₂=>wpAny (model X.prog X.w) X.A (compareOp op v u) (EP X pins σ Q) X.xe s₂) X.xe s₁) X.xe s
theorem nobehind(b:Expr){op:CmpOp}(h:op≠.In)(h2:op≠.NotIn):behindInMarks op b=false:=by
 have e1:(op==CmpOp.In)=false:=by cases op<;>first|rfl|exact absurd rfl h
 have e2:(op==CmpOp.NotIn)=false:=by cases op<;>first|rfl|exact absurd rfl h2
 cases b<;>simp[behindInMarks,e1,e2]
def tB(t:TE):TT:=fun σ H Q=>t σ H fun x H1=>∃c,x= .bl c/\Q c H1
theorem pt_cmp{op:CmpOp}{t:TE}(h:PC X op a b t)(h1:behindInMarks op b=false:=by first|exact nobehind _ (by decide) (by decide)|rfl):PT X (.Compare a [op] [b] pos) (tB t):=by
 intro pins s σ H Q I hw
 refine wpAny_isTrue_Compare1 (thn (h pins s σ H _ I hw) fun v s1 h1=>thn h1 fun u s2 h2=>thn h2 fun c s3⟨x,H1,I1,r1,q1⟩=>?_) h1
 obtain⟨d,rfl,q⟩:=q1
 cases r1
 exact wpAny_truthy_bool ⟨H1,I1,q⟩
theorem pt_val{e:Expr}{t:TE}(h:PE X e t)(he:∀whole,isTrue e X.env whole=(do let v<-whole;standAt e.pos;holding [v] (truthy v)):=by intro _;rfl):PT X e (tB t):=by
 intro pins s σ H Q I hw
 refine isTrue_plain (thn (h pins s σ H _ I hw) fun v s1⟨x,H1,I1,r1,q1⟩=>?_) (he _)
 obtain⟨d,rfl,q⟩:=q1
 cases r1
 exact wpAny_truthy_bool ⟨H1,I1,q⟩
variable{tA tB':TT}{rest:List Expr}
def tAnd(t u:TT):TT:=fun σ H Q=>t σ H fun c H1=>if c=true then u σ H1 Q else Q false H1
def tOr(t u:TT):TT:=fun σ H Q=>t σ H fun c H1=>if c=true then Q true H1 else u σ H1 Q
def tNot(t:TT):TT:=fun σ H Q=>t σ H fun c H1=>Q (!c) H1
theorem pw_and1(ha:PT X a tA):PW X (.BoolOp .And [a] pos) tA:=by
 intro wh pins s σ H Q I h
 refine isTrue_and (thn (ha pins s σ H Q I h) fun c s1 e=>?_)
 cases c with
 |true=>exact isTrue_and_nil e
 |false=>exact e
theorem pw_or1(ha:PT X a tA):PW X (.BoolOp .Or [a] pos) tA:=by
 intro wh pins s σ H Q I h
 refine isTrue_or (thn (ha pins s σ H Q I h) fun c s1 e=>?_)
 cases c with
 |false=>exact isTrue_or_nil e
 |true=>exact e
theorem pw_and(ha:PT X a tA)(hb:PW X (.BoolOp .And (b::rest) pos) tB'):PW X (.BoolOp .And (a::b::rest) pos) (tAnd tA tB'):=by
 intro wh pins s σ H Q I h
 refine isTrue_and (thn (ha pins s σ H _ I h) fun c s1⟨H1,I1,q1⟩=>?_)
 cases c with
 |true=>exact hb wh pins s1 σ H1 Q I1 q1
 |false=>exact⟨H1,I1,q1⟩
theorem pw_or(ha:PT X a tA)(hb:PW X (.BoolOp .Or (b::rest) pos) tB'):PW X (.BoolOp .Or (a::b::rest) pos) (tOr tA tB'):=by
 intro wh pins s σ H Q I h
 refine isTrue_or (thn (ha pins s σ H _ I h) fun c s1⟨H1,I1,q1⟩=>?_)
 cases c with
 |true=>exact⟨H1,I1,q1⟩
 |false=>exact hb wh pins s1 σ H1 Q I1 q1
theorem pt_not(ha:PT X a tA):PT X (.UnaryOp .Not a pos) (tNot tA):=by
 intro pins s σ H Q I h
 exact isTrue_not (ha pins s σ H (fun c H1=>Q (!c) H1) I h)
def tAndV(ta tb:TE):TE:=fun σ H Q=>ta σ H fun x H1=>∃c,x= .bl c/\if c=true then tb σ H1 Q else Q (.bl false) H1
def tOrV(ta tb:TE):TE:=fun σ H Q=>ta σ H fun x H1=>∃c,x= .bl c/\if c=true then Q (.bl true) H1 else tb σ H1 Q
def tNotV(ta:TE):TE:=fun σ H Q=>ta σ H fun x H1=>∃c,x= .bl c/\Q (.bl (!c)) H1
theorem pe_one{op}{t:TE}(h:PE X a t):PE X (.BoolOp op [a] pos) t:=fun pins s σ H Q I hw=>BoolOp_one (h pins s σ H Q I hw)
theorem pe_and(ha:PE X a ta)(hb:PE X (.BoolOp .And (b::rest) pos) tb):PE X (.BoolOp .And (a::b::rest) pos) (tAndV ta tb):=by
 intro pins s σ H Q I h
 refine BoolOp_and (thn (ha pins s σ H _ I h) fun v s1⟨x,H1,I1,r1,q1⟩=>?_)
 obtain⟨c,rfl,q1⟩:=q1
 cases r1
 refine wpAny_truthy_bool ?_
 cases c with
 |true=>exact hb pins s1 σ H1 Q I1 q1
 |false=>exact⟨.bl false,H1,I1,rfl,q1⟩
theorem pe_or(ha:PE X a ta)(hb:PE X (.BoolOp .Or (b::rest) pos) tb):PE X (.BoolOp .Or (a::b::rest) pos) (tOrV ta tb):=by
 intro pins s σ H Q I h
 refine BoolOp_or (thn (ha pins s σ H _ I h) fun v s1⟨x,H1,I1,r1,q1⟩=>?_)
 obtain⟨c,rfl,q1⟩:=q1
 cases r1
 refine wpAny_truthy_bool ?_
 cases c with
 |false=>exact hb pins s1 σ H1 Q I1 q1
 |true=>exact⟨.bl true,H1,I1,rfl,q1⟩
theorem pe_not(ha:PE X a ta):PE X (.UnaryOp .Not a pos) (tNotV ta):=by
 intro pins s σ H Q I h
 refine UnaryOp_ (thn (ha pins s σ H _ I h) fun v s1⟨x,H1,I1,r1,q1⟩=>?_)
 obtain⟨c,rfl,q1⟩:=q1
 cases r1
 exact not_of (wpAny_truthy_bool ⟨.bl (!c),H1,I1,rfl,q1⟩)
def tIf(t:TT)(ta tb:TE):TE:=fun σ H Q=>t σ H fun c H1=>if c=true then ta σ H1 Q else tb σ H1 Q
theorem pe_ifExp{c:Expr}(hc:PT X c tA)(ha:PE X a ta)(hb:PE X b tb):PE X (.IfExp c a b pos) (tIf tA ta tb):=by
 intro pins s σ H Q I h
 refine wpAny_IfExp (thn (hc pins s σ H _ I h) fun d s1⟨H1,I1,q1⟩=>?_)
 cases d with
 |true=>exact ha pins s1 σ H1 Q I1 q1
 |false=>exact hb pins s1 σ H1 Q I1 q1
end
def SqL(K:PySem.W.Frag)(H:Hp)(a:Addr)(xs:List V):Prop:=
 Rd H a (.lst xs)\/
  ∃(o:Obj)(its:Array Value)(n:Nat),K.lookup a=some o/\o.cls= .type "list"/\o.dict=none/\o.data= .seq its n/\its.size<=sizeLine/\Vals xs its.toList
def SqT(K:PySem.W.Frag)(H:Hp)(a:Addr)(xs:List V):Prop:=
 Rd H a (.tup xs)\/
  ∃(o:Obj)(its:Array Value)(n:Nat),K.lookup a=some o/\o.cls= .type "tuple"/\o.data= .seq its n/\its.size<=sizeLine/\Vals xs its.toList
def absV:Value->Option V
 | .none=>some .non
 | .bool b=>some (.bl b)
 | .int i _=>some (.int i)
 | .str x _=>some (.str x)
 | .bytes b _=>some (.byt b)
 | .float b _=>some (.flt b)
 | .ref a=>some (.ref a)
 | .type n=>some (.ty n)
 |_=>none
theorem RelV.abs{x:V}{u:Value}(r:RelV x u):absV u=some x:=by
 cases x with
 |non=>cases r;rfl
 |bl _=>cases r;rfl
 |int _=>obtain⟨t,rfl⟩:=r;rfl
 |str _=>obtain⟨t,rfl⟩:=r;rfl
 |byt _=>obtain⟨t,rfl⟩:=r;rfl
 |flt _=>obtain⟨t,rfl⟩:=r;rfl
 |ref _=>cases r;rfl
 |ty _=>cases r;rfl
theorem RelV.inj{x y:V}{u:Value}(r:RelV x u)(q:RelV y u):x=y:=Option.some.inj (r.abs.symm.trans q.abs)
theorem Vals.inj:∀{xs ys:List V}{us:List Value},Vals xs us->Vals ys us->xs=ys
 |_,_,_,.nil,.nil=>rfl
 |_,_,_,.cons r t,.cons r' t'=>by rw[r.inj r',Vals.inj t t']
section
variable{X:Cx}{pins:List (Addr×Obj)}{σ:St}{H:Hp}{s:Shared}{a:Addr}{xs ys:List V}
theorem SqL.of{K:PySem.W.Frag}(h:H a=some (.lst xs)):SqL K H a xs:= .inl (.inl h)
theorem SqT.of{K:PySem.W.Frag}(h:H a=some (.tup xs)):SqT K H a xs:= .inl (.inl h)
theorem Inv.list(I:Inv X pins σ H s)(h:SqL X.K H a xs):∃its:List Value,Vals xs its/\PlainL s.heap a its.toArray/\xs.length<=sizeLine:=by
 rcases h with h|⟨o,its,n,hk,hc,hd,hs,hz,r⟩
 ·obtain⟨z,its,n,r,e⟩:=h.ok I.hok
  exact⟨its,r,⟨_,n,e,rfl,rfl,rfl⟩,z⟩
 ·refine⟨its.toList,r,⟨o,n,I.kIn a o hk,hc,hd,by simpa using hs⟩,?_⟩
  have e:=r.length
  simp only[Array.length_toList]at e
  omega
theorem Inv.tuple(I:Inv X pins σ H s)(h:SqT X.K H a xs):∃its:List Value,Vals xs its/\IsTup s.heap a its.toArray/\xs.length<=sizeLine:=by
 rcases h with h|⟨o,its,n,hk,hc,hs,hz,r⟩
 ·obtain⟨z,its,r,p⟩:=h.ok I.hok
  exact⟨its,r,p,z⟩
 ·refine⟨its.toList,r,⟨o,I.kIn a o hk,hc,n,by simpa using hs⟩,?_⟩
  have e:=r.length
  simp only[Array.length_toList]at e
  omega
theorem Inv.list_inj(I:Inv X pins σ H s)(h:SqL X.K H a xs)(h':SqL X.K H a ys):xs=ys:=by
 obtain⟨its,r,⟨o,n,e,_,_,d⟩,_⟩:=I.list h
 obtain⟨its',r',⟨o',n',e',_,_,d'⟩,_⟩:=I.list h'
 rw[e]at e';cases e'
 rw[d]at d'
 injection d' with d1 _
 have:its=its':=by simpa using congrArg Array.toList d1
 subst this
 exact r.inj r'
theorem Inv.tuple_inj(I:Inv X pins σ H s)(h:SqT X.K H a xs)(h':SqT X.K H a ys):xs=ys:=by
 obtain⟨its,r,⟨o,e,_,n,d⟩,_⟩:=I.tuple h
 obtain⟨its',r',⟨o',e',_,n',d'⟩,_⟩:=I.tuple h'
 rw[e]at e';cases e'
 rw[d]at d'
 injection d' with d1 _
 have:its=its':=by simpa using congrArg Array.toList d1
 subst this
 exact r.inj r'
end
abbrev Cx.wish(X:Cx)(E:Value->Shared->Prop):Cx:={X with xe:=E}
abbrev Cx.nox(X:Cx):Cx:=X.wish fun _ _=>False
theorem Cx.Ok.wish{X:Cx}(ok:X.Ok)(E:Value->Shared->Prop):(X.wish E).Ok:=
 ⟨ok.mod,ok.kind,ok.glob,ok.blt,ok.above,ok.inj,ok.has,ok.cab,ok.hd,ok.frames,ok.stk,ok.exf,ok.bs,ok.bsz,ok.noex,ok.exfs,ok.funs,ok.frf⟩
theorem Cx.Ok.unwish{X:Cx}{E:Value->Shared->Prop}(ok:(X.wish E).Ok):X.Ok:=
 ⟨ok.mod,ok.kind,ok.glob,ok.blt,ok.above,ok.inj,ok.has,ok.cab,ok.hd,ok.frames,ok.stk,ok.exf,ok.bs,ok.bsz,ok.noex,ok.exfs,ok.funs,ok.frf⟩
section
variable{X:Cx}{pins:List (Addr×Obj)}{σ:St}{H:Hp}{s:Shared}{E:Value->Shared->Prop}
theorem Inv.wish(I:Inv X pins σ H s)(E:Value->Shared->Prop):Inv (X.wish E) pins σ H s:=⟨I.ok.wish E,I.os,I.bare,I.base,I.loc,I.cell,I.free,I.freeC,I.pin,I.hok,I.len⟩
theorem Inv.unwish(I:Inv (X.wish E) pins σ H s):Inv X pins σ H s:=⟨I.ok.unwish,I.os,I.bare,I.base,I.loc,I.cell,I.free,I.freeC,I.pin,I.hok,I.len⟩
theorem SP.unwish{D:Ends}{f:Flow}{s':Shared}(h:SP (X.wish E) pins D f s'):SP X pins D f s':=by
 cases f with
 |next=>obtain⟨σ',H',I,q⟩:=h;exact⟨σ',H',I.unwish,q⟩
 |brk=>obtain⟨σ',H',I,q⟩:=h;exact⟨σ',H',I.unwish,q⟩
 |cont=>obtain⟨σ',H',I,q⟩:=h;exact⟨σ',H',I.unwish,q⟩
 |ret u=>obtain⟨v,σ',H',I,r,q⟩:=h;exact⟨v,σ',H',I.unwish,r,q⟩
theorem PE.nox{e:Expr}{t:TE}(h:PE X.nox e t):PE X e t:=fun pins s σ H Q I hw=>
 wpAny_mono (h pins s σ H Q (I.wish _) hw) (fun _ _⟨v,H',I',r,q⟩=>⟨v,H',I'.unwish,r,q⟩) fun _ _ z=>False.elim z
theorem PT.nox{e:Expr}{t:TT}(h:PT X.nox e t):PT X e t:=fun pins s σ H Q I hw=>
 wpAny_mono (h pins s σ H Q (I.wish _) hw) (fun _ _⟨H',I',q⟩=>⟨H',I'.unwish,q⟩) fun _ _ z=>False.elim z
theorem PSs.nox{st:List Stmt}{t:TS}(h:PSs X.nox st t):PSs X st t:=fun pins s σ H D I hw=>
 wpAny_mono (h pins s σ H D (I.wish _) hw) (fun _ _ q=>q.unwish) fun _ _ z=>False.elim z
end
section
variable{X:Cx}{st:Stmt}{rest:List Stmt}{t u:TS}{e:Expr}{te:TE}{pos:Pos}
def tNext:TS:=fun D σ H=>D.nx σ H
def tSeq(t u:TS):TS:=fun D σ H=>t {D with nx:=u D} σ H
theorem pss_nil:PSs X [] tNext:=fun _ _ σ H _ I h=>wpAny_execs_nil ⟨σ,H,I,h⟩
theorem pss_cons(h1:PS X st t)(h2:PSs X rest u):PSs X (st::rest) (tSeq t u):=by
 intro pins s σ H D I h
 refine wpAny_execs_cons (thn (h1 pins s σ H {D with nx:=u D} I h) fun f s1 q=>?_)
 cases f with
 |next=>
  obtain⟨σ',H',I',q⟩:=q
  exact h2 pins s1 σ' H' D I' q
 |ret v=>exact q
 |brk=>exact q
 |cont=>exact q
theorem pss_one(h1:PS X st t):PSs X [st] t:=by
 intro pins s σ H D I h
 refine wpAny_execs_cons (thn (h1 pins s σ H D I h) fun f s1 q=>?_)
 cases f with
 |next=>exact wpAny_execs_nil q
 |ret v=>exact q
 |brk=>exact q
 |cont=>exact q
theorem Inv.quiet{pins:List (Addr×Obj)}{σ:St}{H:Hp}{s:Shared}(I:Inv X pins σ H s):interactive X.env=false:=by simp[interactive,I.ok.kind]
def tDrop(te:TE):TS:=fun D σ H=>te σ H fun _ H1=>D.nx σ H1
theorem ps_expr(he:PE X e te)(hs:swapsWith e none pos.line X.env=pure false:=by rfl):PS X (.Expr e pos) (tDrop te):=by
 intro pins s σ H D I h
 exact wpAny_Expr_any (thn (he pins s σ H _ I h) fun v s1⟨x,H1,I1,r1,q1⟩=>⟨σ,H1,I1,q1⟩) I.quiet hs
def tRet(te:TE):TS:=fun D σ H=>te σ H D.rt
theorem ps_ret(he:PE X e te):PS X (.Return (some e) pos) (tRet te):=by
 intro pins s σ H D I h
 exact wpAny_Return_some (thn (he pins s σ H _ I h) fun v s1⟨x,H1,I1,r1,q1⟩=>⟨x,σ,H1,I1,r1,q1⟩)
def tIfS(c:TT)(t u:TS):TS:=fun D σ H=>c σ H fun b H1=>if b=true then t D σ H1 else u D σ H1
theorem ps_if{c:Expr}{a b:List Stmt}{tc:TT}(hc:PT X c tc)(ha:PSs X a t)(hb:PSs X b u):PS X (.If c a b pos) (tIfS tc t u):=by
 intro pins s σ H D I h
 refine wpAny_If (thn (hc pins s σ H _ I h) fun d s1⟨H1,I1,q1⟩=>?_)
 cases d with
 |true=>exact ha pins s1 σ H1 D I1 q1
 |false=>exact hb pins s1 σ H1 D I1 q1
def tNever:TS:=fun _ _ _=>False
theorem pss_never{sts:List Stmt}:PSs X sts tNever:=fun _ _ _ _ _ _ h=>h.elim
end
abbrev TG:=V->St->Hp->(St->Hp->Prop)->Prop
abbrev TGs:=List V->St->Hp->(St->Hp->Prop)->Prop
def PG(X:Cx)(target:Expr)(t:TG):Prop:=
 ∀(pins:List (Addr×Obj))(s:Shared)(σ:St)(H:Hp)(v:V)(u:Value)(Q:St->Hp->Prop),Inv X pins σ H s->RelV v u->t v σ H Q->
  wpAny (model X.prog X.w) X.A (assign target X.env u) (fun _ s'=>∃σ' H',Inv X pins σ' H' s'/\Q σ' H') X.xe s
def PGs(X:Cx)(ts:List Expr)(t:TGs):Prop:=
 ∀(pins:List (Addr×Obj))(s:Shared)(σ:St)(H:Hp)(vs:List V)(us:List Value)(Q:St->Hp->Prop),Inv X pins σ H s->Vals vs us->t vs σ H Q->
  wpAny (model X.prog X.w) X.A (assignInOrder ((assignEach ts X.env).map (·.2)) us) (fun _ s'=>∃σ' H',Inv X pins σ' H' s'/\Q σ' H') X.xe s
abbrev TSet:=V->V->V->Hp->(Hp->Prop)->Prop
def PSet(X:Cx)(t:TSet):Prop:=
 ∀(pins:List (Addr×Obj))(s:Shared)(σ:St)(H:Hp)(o i v:V)(ov iv u:Value)(Q:Hp->Prop),Inv X pins σ H s->RelV o ov->RelV i iv->RelV v u->t o i v H Q->
  wpAny (model X.prog X.w) X.A (setItem ov iv u) (fun _ s'=>∃H',Inv X pins σ H' s'/\Q H') X.xe s
abbrev TIp:=V->V->Hp->VK->Prop
def PIp(X:Cx)(op:Operator)(t:TIp):Prop:=
 ∀(pins:List (Addr×Obj))(s:Shared)(σ:St)(H:Hp)(x y:V)(v u:Value)(Q:VK),Inv X pins σ H s->RelV x v->RelV y u->t x y H Q->
  wpAny (model X.prog X.w) X.A (inplaceOp op v u) (EP X pins σ Q) X.xe s
section
variable{X:Cx}{pos:Pos}
def gName(i:Nat):TG:=fun v σ H Q=>Q (σ.set i (some v)) H
theorem pg_name{i:Nat}{x:Str}(hN:X.N.Nodup)(hi:X.N[i]?=some x)(hx:Loc X.env.scope x)(hf:X.fn x=true\/X.env.scope.names.lookup x=some .local:=by first|exact .inl rfl|exact .inr rfl|assumption):PG X (.Name x pos) (gName i):=by
 intro pins s σ H v u Q I r h
 exact wpAny_assign_Name (store_ok I hN hi hx r (fun s' I'=>⟨_,H,I',h⟩) hf)
def gNil:TGs:=fun vs σ H Q=>vs=[]/\Q σ H
def gCons(t:TG)(u:TGs):TGs:=fun vs σ H Q=>∃v r,vs=v::r/\t v σ H fun σ' H'=>u r σ' H' Q
theorem pgs_nil:PGs X [] gNil:=by
 intro pins s σ H vs us Q I r h
 obtain⟨e,h⟩:=h
 subst e
 cases r
 exact assignInOrder_nil ⟨σ,H,I,h⟩
theorem pgs_cons{e:Expr}{es:List Expr}{t:TG}{u:TGs}(h1:PG X e t)(h2:PGs X es u)
  (hs:(assignEach (e::es) X.env).map (·.2)=assign e X.env::(assignEach es X.env).map (·.2):=by rfl):PGs X (e::es) (gCons t u):=by
 intro pins s σ H vs us Q I r h
 obtain⟨v,vr,e1,h⟩:=h
 subst e1
 cases r with
 |cons r rr=>
  rw[hs]
  refine assignInOrder_cons (thn (h1 pins s σ H _ _ _ I r h) fun _ s1⟨σ1,H1,I1,q1⟩=>?_)
  exact h2 pins s1 σ1 H1 _ _ Q I1 rr q1
def gTup(K:PySem.W.Frag)(n:Nat)(t:TGs):TG:=fun v σ H Q=>∃a xs,v= .ref a/\SqT K H a xs/\xs.length=n/\t xs σ H Q
theorem pg_tup{es:List Expr}{k:Nat}{t:TGs}{n:Nat}(hc:X.calm=true)(h:PGs X es t)
  (hn:(assignEach es X.env).length=n:=by rfl)(hst:(assignEach es X.env).findIdx? (·.1)=none:=by rfl):PG X (.Tuple es k pos) (gTup X.K n t):=by
 intro pins s σ H v u Q I r hw
 obtain⟨a,xs,e1,hq,hl,hw⟩:=hw
 subst e1
 cases r
 obtain⟨its,rv,ht,hz⟩:=I.tuple hq
 refine assign_Tuple_tuple (I.ok.hd hc) ht (by simp[hn,<-hl,rv.length]) hst fun h' hx=>?_
 have I1:Inv X pins σ H {s with heap:=h'}:=I.kept (t':=s.toks) fun b o e=>hx b o (Nat.ne_of_lt (Heap.lt_size e)) e
 exact h pins _ σ H xs _ Q I1 (by simpa using rv) hw
def gSub(to ti:TE)(t:TSet):TG:=fun v σ H Q=>to σ H fun o H1=>ti σ H1 fun i H2=>t o i v H2 fun H3=>Q σ H3
theorem pg_sub{o i:Expr}{to ti:TE}{t:TSet}(ho:PE X o to)(hi:PE X i ti)(hs:PSet X t)
  (ha:∀v,assign (.Subscript o i pos) X.env v=(do
   let ov<-holding [v] (eval o X.env)
   let iv<-holding [v,ov] (eval i X.env)
   standAt pos
   holding [v,ov,iv] (setItem ov iv v)
   release [v,ov,iv] []):=by intro _;rfl):PG X (.Subscript o i pos) (gSub to ti t):=by
 intro pins s σ H v u Q I r h
 rw[ha]
 refine wpAny_bind (wpAny_holding (thn (ho pins s σ H _ I h) fun ov s1⟨x,H1,I1,r1,q1⟩=>?_))
 refine wpAny_bind (wpAny_holding (thn (hi pins s1 σ H1 _ I1 q1) fun iv s2⟨y,H2,I2,r2,q2⟩=>?_))
 refine wpAny_bind (wpAny_standAt (wpAny_bind (wpAny_holding (thn (hs pins s2 σ H2 x y v ov iv u _ I2 r1 r2 r q2) fun _ s3⟨H3,I3,q3⟩=>?_))))
 exact wpAny_release ⟨σ,H3,I3,q3⟩
def tAsg(te:TE)(g:TG):TS:=fun D σ H=>te σ H fun x H1=>g x σ H1 D.nx
theorem ps_asg{tg e:Expr}{te:TE}{g:TG}(he:PE X e te)(hg:PG X tg g)(hs:swapsWithSole [tg] e pos.line X.env=pure false:=by rfl)(hw:swappedStores [tg] e X.env=pure none:=by rfl)
  (h1:(assignEach [tg] X.env).map (·.2)=[assign tg X.env]:=by rfl):PS X (.Assign [tg] e pos) (tAsg te g):=by
 intro pins s σ H D I h
 refine wpAny_Assign_stores (thn (he pins s σ H _ I h) fun v s1⟨x,H1,I1,r1,q1⟩=>?_) hs hw
 rw[h1]
 exact thn (hg pins s1 σ H1 x v _ I1 r1 q1) fun _ s2 q=>q
theorem ps_set{i:Nat}{x:Str}{e:Expr}{te:TE}{pos':Pos}(hN:X.N.Nodup)(hi:X.N[i]?=some x)(hx:Loc X.env.scope x)(he:PE X e te)(hs:swapsWith e (some (.Name x pos')) pos.line X.env=pure false:=by rfl)(hf:X.fn x=true\/X.env.scope.names.lookup x=some .local:=by first|exact .inl rfl|exact .inr rfl|assumption):
  PS X (.Assign [.Name x pos'] e pos) (tAsg te (gName i)):=by
 intro pins s σ H D I h
 refine wpAny_Assign_Name (thn (he pins s σ H _ I h) fun v s1⟨y,H1,I1,r1,q1⟩=>?_) hs
 exact store_ok I1 hN hi hx r1 (fun s2 I2=>⟨_,H1,I2,q1⟩) hf
def tAug(i:Nat)(te:TE)(ti:TIp):TS:=fun D σ H=>∃x,σ[i]?=some (some x)/\te σ H fun y H1=>ti x y H1 fun z H2=>D.nx (σ.set i (some z)) H2
theorem ps_aug{i:Nat}{x:Str}{e:Expr}{te:TE}{op:Operator}{ti:TIp}{pos':Pos}(hN:X.N.Nodup)(hi:X.N[i]?=some x)(hx:Loc X.env.scope x)(he:PE X e te)(ho:PIp X op ti)(hf:X.fn x=true\/X.env.scope.names.lookup x=some .local:=by first|exact .inl rfl|exact .inr rfl|assumption):
  PS X (.AugAssign (.Name x pos') op e pos) (tAug i te ti):=by
 intro pins s σ H D I h
 obtain⟨v,e1,h⟩:=h
 obtain⟨m,hn,hl⟩:=I.loc
 have vis:Vis X.env.scope x:=by rcases hx with k|k;exact .inl k;exact .inr (.inl k)
 obtain⟨u,r,l⟩:=hl i x v hi e1 vis
 refine wpAny_AugAssign_Name ?_
 have go:wpAny (model X.prog X.w) X.A (eval e X.env) (fun w s₂=>wpAny (model X.prog X.w) X.A (inplaceOp op u w) (fun r s₃=>wpAny (model X.prog X.w) X.A (storeName X.env x r) (fun _=>SP X pins D .next) X.xe s₃) X.xe s₂) X.xe s:=by
  refine thn (he pins s σ H _ I h) fun w s1⟨y,H1,I1,r1,q1⟩=>?_
  refine thn (ho pins s1 σ H1 v y u w _ I1 r r1 q1) fun z s2⟨zv,H2,I2,r2,q2⟩=>?_
  exact store_ok I2 hN hi hx r2 (fun s3 I3=>⟨_,H2,I3,q2⟩) hf
 rcases l with⟨hk,hm⟩|⟨hk,c,hc,hcell⟩
 ·exact wpAny_loadName_local I.ok.kind hk hn hm go
 ·rcases hk with hk|hk
  ·exact wpAny_loadName_cell I.ok.kind hk hc hcell go
  ·rcases hx with k|k
   ·have:X.env.scope.names.lookup x=some .free:=hk
    rw[k]at this;cases this
   ·have:X.env.scope.names.lookup x=some .free:=hk
    rw[k]at this;cases this
def tAugS(to ti te:TE)(tget:V->V->Hp->VK->Prop)(tip:TIp)(tset:TSet):TS:=fun D σ H=>to σ H fun o H1=>ti σ H1 fun i H2=>tget o i H2 fun x H3=>te σ H3 fun y H4=>tip x y H4 fun z H5=>tset o i z H5 fun H6=>D.nx σ H6
def PGet(X:Cx)(t:V->V->Hp->VK->Prop):Prop:=
 ∀(pins:List (Addr×Obj))(s:Shared)(σ:St)(H:Hp)(o i:V)(ov iv:Value)(Q:VK),Inv X pins σ H s->RelV o ov->RelV i iv->t o i H Q->
  wpAny (model X.prog X.w) X.A (getItem ov iv) (EP X pins σ Q) X.xe s
theorem ps_augS{o i e:Expr}{to ti te:TE}{tget:V->V->Hp->VK->Prop}{tip:TIp}{tset:TSet}{op:Operator}{tpos:Pos}(ho:PE X o to)(hi:PE X i ti)(hg:PGet X tget)(he:PE X e te)(hp:PIp X op tip)(hs:PSet X tset)
  (ha:∀ov iv new,augStore i ov iv new=(do holding [new,ov,iv] (setItem ov iv new);release [new,ov,iv] [];pure .next):=by intros;rfl):PS X (.AugAssign (.Subscript o i tpos) op e pos) (tAugS to ti te tget tip tset):=by
 intro pins s σ H D I h
 refine wpAny_AugAssign_SubscriptAny (thn (ho pins s σ H _ I h) fun ov s1⟨x1,H1,I1,r1,q1⟩=>?_) ha
 refine thn (hi pins s1 σ H1 _ I1 q1) fun iv s2⟨x2,H2,I2,r2,q2⟩=>?_
 refine thn (hg pins s2 σ H2 x1 x2 ov iv _ I2 r1 r2 q2) fun old s3⟨x3,H3,I3,r3,q3⟩=>?_
 refine thn (he pins s3 σ H3 _ I3 q3) fun v s4⟨x4,H4,I4,r4,q4⟩=>?_
 refine thn (hp pins s4 σ H4 x3 x4 old v _ I4 r3 r4 q4) fun new s5⟨x5,H5,I5,r5,q5⟩=>?_
 exact thn (hs pins s5 σ H5 x1 x2 x5 ov iv new _ I5 r1 r2 r5 q5) fun _ s6⟨H6,I6,q6⟩=>⟨σ,H6,I6,q6⟩
def ipI(f:Int->Int->Int):TIp:=fun x y H Q=>∃i j,x= .int i/\y= .int j/\Q (.int (f i j)) H
theorem ip_add:PIp X .Add (ipI fun i j=>i+j):=by
 intro pins s σ H x y v u Q I r1 r2 h
 obtain⟨i,j,e1,e2,q⟩:=h
 subst e1;subst e2
 obtain⟨t,rfl⟩:=r1
 obtain⟨t',rfl⟩:=r2
 exact iadd_int ⟨.int _,H,I.tok _,⟨_,rfl⟩,q⟩
def tWhile(c:TT)(tb:TS):TS:=fun D σ H=>∃W:Nat->St->Hp->Prop,(∃m,W m σ H)/\∀m σ H,W m σ H->
 c σ H fun b H1=>if b=true then∃N:St->Hp->Prop,(∀σ' H',N σ' H'->∃m',m'<m/\W m' σ' H')/\tb {D with nx:=N,ct:=N,bk:=D.nx} σ H1 else D.nx σ H1
theorem ps_while{c:Expr}{body:List Stmt}{tc:TT}{tb:TS}(hp:PassesOwn (model X.prog X.w) X.A X.env X.xe)(hc:PT X c tc)(hb:PSs X body tb):PS X (.While c body [] pos) (tWhile tc tb):=by
 intro pins s σ H D I h
 obtain⟨W,⟨m0,w0⟩,turn⟩:=h
 refine wpAny_While (codeAny_whileLoop (fun n s'=>∃σ' H',Inv X pins σ' H' s'/\W n σ' H') ?_ m0 ⟨σ,H,I,w0⟩)
 rintro n s1 ⟨σ1,H1,I1,w1⟩
 refine wpAny_passesOwn hp (thn (hc pins s1 σ1 H1 _ I1 (turn n σ1 H1 w1)) fun b s2⟨H2,I2,q2⟩=>?_)
 cases b with
 |true=>
  obtain⟨N,hN,q2⟩:=q2
  rw[if_pos rfl]
  refine wpAny_passesOwn hp (thn (hb pins s2 σ1 H2 _ I2 q2) fun f s3 q3=>?_)
  cases f with
  |next=>
   obtain⟨σ3,H3,I3,n3⟩:=q3
   obtain⟨m',hm,w3⟩:=hN σ3 H3 n3
   exact⟨m',hm,σ3,H3,I3,w3⟩
  |cont=>
   obtain⟨σ3,H3,I3,n3⟩:=q3
   obtain⟨m',hm,w3⟩:=hN σ3 H3 n3
   exact⟨m',hm,σ3,H3,I3,w3⟩
  |brk=>exact q3
  |ret v=>exact q3
 |false=>
  rw[if_neg Bool.false_ne_true]
  exact wpAny_execs_nil ⟨σ1,H2,I2,q2⟩
end
structure It where
 go:Nat->Hp->Prop
 yld:Nat->Hp->V->Hp->Prop
 stop:Nat->Hp->Prop
def FpOk(X:Cx)(pins:List (Addr×Obj))(H:Hp)(b:Addr):Prop:=
 H b=none/\b≠X.env.locals/\b ∉ X.fs/\(b∈X.ex\/X.s₀.heap.objs.size<=b)/\(∀x c,X.env.cells.lookup x=some c->c≠b)/\∀p∈X.pn++pins,p.1≠b
theorem Inv.fpOk{X:Cx}{pins:List (Addr×Obj)}{σ:St}{H H':Hp}{s:Shared}{b:Addr}(I:Inv X pins σ H s)(hb:s.heap.objs.size<=b)(hn:H' b=none):FpOk X pins H' b:=by
 refine⟨hn,Nat.ne_of_gt (Nat.lt_of_lt_of_le I.lt hb),I.nofs hb,.inr (Nat.le_trans I.sz hb),fun x c e z=>?_,fun p hp z=>?_⟩
 ·obtain⟨v,q⟩:=I.cell x c e
  exact absurd (Nat.lt_of_lt_of_le q.lt (by rw[z];exact hb)) (Nat.lt_irrefl _)
 ·exact absurd (Nat.lt_of_lt_of_le (Heap.lt_size (I.pin p hp).1) (by rw[z];exact hb)) (Nat.lt_irrefl _)
structure Turn(P:Program)(w:World)(K:PySem.W.Frag)(tg:Expr)(J:It)(fp:List Addr)(it:Addr)(tn:Nat->Heap->Prop):Prop where
 mem:it∈fp
 obj:∀i h,tn i h->∀b∈fp,∃o,h.get? b=some o/\∀v,o.data≠.cell v
 keep:∀i h h',tn i h->(∀b∈fp,∀o,h.get? b=some o->h'.get? b=some o)->tn i h'
 item:∀(X:Cx),X.prog=P->X.w=w->X.K=K->X.calm=true->∀(i:Nat)(pins:List (Addr×Obj))(s:Shared)(σ:St)(H:Hp)(E:Value->Shared->Prop),Inv X pins σ H s->(∀b∈fp,FpOk X pins H b)->tn i s.heap->J.go i H->
  wpAny (model P w) X.A (pyNext (.ref it)) (fun r s1=>∃u,r=some u/\
   wpAny (model P w) X.A (letOwnedTupleGo tg (.ref it) u) (fun _ s2=>∃x H',Inv X pins σ H' s2/\RelV x u/\J.yld i H x H'/\tn (i+1) s2.heap/\∀b∈fp,H' b=none) E s1) E s
 done:∀(X:Cx),X.prog=P->X.w=w->X.K=K->X.calm=true->∀(i:Nat)(pins:List (Addr×Obj))(s:Shared)(σ:St)(H:Hp)(E:Value->Shared->Prop),Inv X pins σ H s->(∀b∈fp,FpOk X pins H b)->tn i s.heap->J.stop i H->
  wpAny (model P w) X.A (pyNext (.ref it)) (fun r s1=>r=none/\Inv X pins σ H s1) E s
 self:∀(A:Around)(i:Nat)(s:Shared)(Q:Value->Shared->Prop)(E:Value->Shared->Prop),tn i s.heap->Q (.ref it) s->wpAny (model P w) A (pyIter (.ref it)) Q E s
abbrev TI:=St->Hp->(It->Hp->Prop)->Prop
def PIE(X:Cx)(pins:List (Addr×Obj))(σ:St)(tg:Expr)(R:It->Hp->Prop)(itv:Value)(s2:Shared):Prop:=
 ∃(it:Addr)(fp:List Addr)(tn:Nat->Heap->Prop)(J:It)(H':Hp),itv= .ref it/\Inv X pins σ H' s2/\Turn X.prog X.w X.K tg J fp it tn/\tn 0 s2.heap/\(∀b∈fp,FpOk X pins H' b)/\R J H'
def PI(X:Cx)(tg iter:Expr)(wi:TI):Prop:=
 ∀(pins:List (Addr×Obj))(s:Shared)(σ:St)(H:Hp)(R:It->Hp->Prop),Inv X pins σ H s->wi σ H R->
  wpAny (model X.prog X.w) X.A (eval iter X.env) (fun v s1=>wpAny (model X.prog X.w) X.A (pyIter v) (PIE X pins σ tg R) X.xe s1) X.xe s
theorem go_of{M:Model}{A:Around}{E:Value->Shared->Prop}{s:Shared}{tg:Expr}{it:Addr}{u:Value}{o:Obj}{n:String}{vs:Array Value}{Q:Unit->Shared->Prop}(ho:s.heap.get? it=some o)(hc:o.cls= .type n)(hd:o.data= .fields vs)
  (hn:["enumerate","zip","dict_itemiterator","dict_reverseitemiterator","odict_iterator","itertools.zip_longest","itertools.pairwise"].contains n=false)(hQ:Q () s):wpAny M A (letOwnedTupleGo tg (.ref it) u) Q E s:=by
 unfold letOwnedTupleGo
 cases tg<;>first
  |exact wpAny_pure hQ
  |(cases u<;>first
    |exact wpAny_pure hQ
    |(refine wpAny_bind (wpAny_load ho ?_)
      rw[hc,hd]
      show wpAny M A (if(["enumerate","zip","dict_itemiterator","dict_reverseitemiterator","odict_iterator","itertools.zip_longest","itertools.pairwise"].contains n&&vs[0]?==some (rawInt _))=true then _ else _) Q E s
      rw[if_neg (by intro h;rw[hn,Bool.false_and]at h;cases h)]
      exact wpAny_pure hQ))
def Itl(K:PySem.W.Frag)(a:Addr):It:=
 ⟨fun i H=>∃xs x,SqL K H a xs/\xs[i]?=some x,fun i H x H'=>H'=H/\∀xs,SqL K H a xs->xs[i]?=some x,fun i H=>∃xs,SqL K H a xs/\xs.length<=i⟩
def Itt(K:PySem.W.Frag)(a:Addr):It:=
 ⟨fun i H=>∃xs x,SqT K H a xs/\xs[i]?=some x,fun i H x H'=>H'=H/\∀xs,SqT K H a xs->xs[i]?=some x,fun i H=>∃xs,SqT K H a xs/\xs.length<=i⟩
def Itr(lo:Int)(n:Nat):It:=⟨fun i _=>i<n,fun i H x H'=>H'=H/\x= .int (lo+i),fun i _=>n<=i⟩
theorem turn_list{P:Program}{w:World}{K:PySem.W.Frag}{tg:Expr}(a it:Addr):Turn P w K tg (Itl K a) [it] it (fun i h=>h.IsListIter it a i)where
 mem:=by simp
 obj:=fun i h st b hb=>by
  have e:b=it:=by simpa using hb
  subst e
  obtain⟨o,e,c,d⟩:=st
  exact⟨o,e,fun v z=>by rw[d]at z;cases z⟩
 keep:=fun i h h' st k=>st.at fun o e=>k it (by simp) o e
 item:=by
  intro X hP hw hK hc i pins s σ H E I hf st hg
  subst hP hw hK
  obtain⟨xs,x,hq,hx⟩:=hg
  obtain⟨its,rv,p,hz⟩:=I.list hq
  obtain⟨u,hu,ru⟩:=rv.get hx
  obtain⟨f0,f1,f2,f3,f4,f5⟩:=hf it (by simp)
  refine wpAny_pyNext_list_item st p.isList (x:=u) (by simpa using hu) fun h' st' sb=>?_
  have I1:Inv X pins σ H {s with heap:=h'}:=I.turned (t':=s.toks) (fun b o hb e=>(sb.2 b hb).trans e) f0 f1 f3 f4 f5
  obtain⟨o,e,c,d⟩:=id st'
  exact⟨u,rfl,go_of (s:={s with heap:=h'}) e c d (by decide) ⟨x,H,I1,ru,⟨rfl,fun ys hy=>by rw[I.list_inj hy hq];exact hx⟩,st',fun b hb=>(hf b hb).1⟩⟩
 done:=by
  intro X hP hw hK hc i pins s σ H E I hf st hg
  subst hP hw hK
  obtain⟨xs,hq,hx⟩:=hg
  obtain⟨its,rv,p,hz⟩:=I.list hq
  obtain⟨f0,f1,f2,f3,f4,f5⟩:=hf it (by simp)
  have hl:=rv.length
  exact wpAny_pyNext_list_end (I.ok.hd hc) st p.isList (by simp;omega) fun h' eb=>⟨rfl,I.turned (t':=s.toks) (fun b o hb e=>eb b o hb e) f0 f1 f3 f4 f5⟩
 self:=fun _ _ _ _ _ st h=>wpAny_pyIter_listiter st h
theorem turn_tuple{P:Program}{w:World}{K:PySem.W.Frag}{tg:Expr}(a it:Addr):Turn P w K tg (Itt K a) [it] it (fun i h=>h.IsTupleIter it a i)where
 mem:=by simp
 obj:=fun i h st b hb=>by
  have e:b=it:=by simpa using hb
  subst e
  obtain⟨o,e,c,d⟩:=st
  exact⟨o,e,fun v z=>by rw[d]at z;cases z⟩
 keep:=fun i h h' st k=>st.at fun o e=>k it (by simp) o e
 item:=by
  intro X hP hw hK hc i pins s σ H E I hf st hg
  subst hP hw hK
  obtain⟨xs,x,hq,hx⟩:=hg
  obtain⟨its,rv,p,hz⟩:=I.tuple hq
  obtain⟨u,hu,ru⟩:=rv.get hx
  obtain⟨f0,f1,f2,f3,f4,f5⟩:=hf it (by simp)
  refine wpAny_pyNext_tuple_item st (show s.heap.IsTuple a its.toArray from p) (x:=u) (by simpa using hu) fun h' st' sb=>?_
  have I1:Inv X pins σ H {s with heap:=h'}:=I.turned (t':=s.toks) (fun b o hb e=>(sb.2 b hb).trans e) f0 f1 f3 f4 f5
  obtain⟨o,e,c,d⟩:=id st'
  exact⟨u,rfl,go_of (s:={s with heap:=h'}) e c d (by decide) ⟨x,H,I1,ru,⟨rfl,fun ys hy=>by rw[I.tuple_inj hy hq];exact hx⟩,st',fun b hb=>(hf b hb).1⟩⟩
 done:=by
  intro X hP hw hK hc i pins s σ H E I hf st hg
  subst hP hw hK
  obtain⟨xs,hq,hx⟩:=hg
  obtain⟨its,rv,p,hz⟩:=I.tuple hq
  obtain⟨f0,f1,f2,f3,f4,f5⟩:=hf it (by simp)
  have hl:=rv.length
  exact wpAny_pyNext_tuple_end (I.ok.hd hc) st (show s.heap.IsTuple a its.toArray from p) (by simp;omega) fun h' eb=>⟨rfl,I.turned (t':=s.toks) (fun b o hb e=>eb b o hb e) f0 f1 f3 f4 f5⟩
 self:=fun _ _ _ _ _ st h=>wpAny_pyIter_tupleiter st h
theorem turn_range{P:Program}{w:World}{K:PySem.W.Frag}{tg:Expr}(it:Addr)(lo:Int)(n:Nat):Turn P w K tg (Itr lo n) [it] it (fun i h=>IsRangeIter h it (lo+(i:Nat)*1) ((n:Int)-(i:Nat)) 1)where
 mem:=by simp
 obj:=fun i h st b hb=>by
  have e:b=it:=by simpa using hb
  subst e
  exact⟨_,st,fun v z=>by
   have z':Data.fields _=Data.cell v:=z
   cases z'⟩
 keep:=fun i h h' st k=>k it (by simp) _ st
 item:=by
  intro X hP hw hK hc i pins s σ H E I hf st hg
  subst hP hw hK
  obtain⟨f0,f1,f2,f3,f4,f5⟩:=hf it (by simp)
  have W:=Walks.range (prog:=X.prog) (w:=X.w) (I.ok.hd hc) it lo 1 n
  refine W.item i s _ _ hg st fun v h' tk hv st' kk=>?_
  obtain⟨t,rfl⟩:=hv
  have I1:Inv X pins σ H {s with heap:=h',toks:=tk}:=I.turned (fun b o hb e=>kk b o (by simpa using hb) e) f0 f1 f3 f4 f5
  refine⟨_,rfl,go_of (s:={s with heap:=h',toks:=tk}) (n:="range_iterator") st' rfl rfl (by decide) ⟨.int (lo+i),H,I1,⟨t,?_⟩,⟨rfl,rfl⟩,st',fun b hb=>(hf b hb).1⟩⟩
  rw[Int.mul_one]
 done:=by
  intro X hP hw hK hc i pins s σ H E I hf st hg
  subst hP hw hK
  obtain⟨f0,f1,f2,f3,f4,f5⟩:=hf it (by simp)
  exact wpAny_pyNext_range_end (I.ok.hd hc) st (by have:n<=i:=hg;omega) fun h' eb=>⟨rfl,I.turned (t':=s.toks) (fun b o hb e=>eb b o hb e) f0 f1 f3 f4 f5⟩
 self:=fun _ _ _ _ _ st h=>wpAny_pyIter_rangeiter st h
section
variable{X:Cx}{tg:Expr}
def iList(K:PySem.W.Frag)(tl:TE):TI:=fun σ H R=>tl σ H fun x H1=>∃a,x= .ref a/\(∃xs,SqL K H1 a xs)/\R (Itl K a) H1
def iTup(K:PySem.W.Frag)(tl:TE):TI:=fun σ H R=>tl σ H fun x H1=>∃a,x= .ref a/\(∃xs,SqT K H1 a xs)/\R (Itt K a) H1
theorem pi_list{l:Expr}{tl:TE}(hl:PE X l tl):PI X tg l (iList X.K tl):=by
 intro pins s σ H R I h
 refine thn (hl pins s σ H _ I h) fun v s1⟨x,H1,I1,r1,q1⟩=>?_
 obtain⟨a,e,⟨xs,hq⟩,q⟩:=q1
 subst e
 cases r1
 obtain⟨its,rv,p,hz⟩:=I1.list hq
 refine wpAny_pyIter_list p.isList ?_
 refine⟨s1.heap.objs.size,[s1.heap.objs.size],_,_,H1,rfl,I1.kept (t':=s1.toks) fun b o e=>Heap.get?_push_of_some _ e,turn_list a _,⟨_,Heap.get?_push_size _ rfl,rfl,rfl⟩,fun b hb=>?_,q⟩
 have e:b=s1.heap.objs.size:=by simpa using hb
 subst e
 exact I1.fpOk (Nat.le_refl _) (I1.hok.fresh (Nat.le_refl _))
theorem pi_tup{l:Expr}{tl:TE}(hl:PE X l tl):PI X tg l (iTup X.K tl):=by
 intro pins s σ H R I h
 refine thn (hl pins s σ H _ I h) fun v s1⟨x,H1,I1,r1,q1⟩=>?_
 obtain⟨a,e,⟨xs,hq⟩,q⟩:=q1
 subst e
 cases r1
 obtain⟨its,rv,p,hz⟩:=I1.tuple hq
 refine wpAny_pyIter_tuple (show s1.heap.IsTuple a its.toArray from p) ?_
 refine⟨s1.heap.objs.size,[s1.heap.objs.size],_,_,H1,rfl,I1.kept (t':=s1.toks) fun b o e=>Heap.get?_push_of_some _ e,turn_tuple a _,⟨_,Heap.get?_push_size _ rfl,rfl,rfl⟩,fun b hb=>?_,q⟩
 have e:b=s1.heap.objs.size:=by simpa using hb
 subst e
 exact I1.fpOk (Nat.le_refl _) (I1.hok.fresh (Nat.le_refl _))
theorem range_it{pins:List (Addr×Obj)}{σ:St}{H:Hp}{s:Shared}{R:It->Hp->Prop}{E:Value->Shared->Prop}{lo hi:Int}{t u v:Tok}{tk:Nat}(I:Inv X pins σ H s)(h1: -(2^62)<=lo)(h2:lo<2^62)(h3: -(2^62)<=hi)(h4:hi<2^62)
  (q:R (Itr lo (hi-lo).toNat) H):wpAny (model X.prog X.w) X.A (pyIter (.ref s.heap.objs.size)) (PIE X pins σ tg R) E {s with heap:=s.heap.push {cls:= .type "range",data:= .fields #[.int lo t,.int hi u,.int 1 v]},toks:=tk}:=by
 refine wpAny_pyIter_range (IsRange.new ..) (small_one h1 h2 h3 h4) ?_
 have I1:Inv X pins σ H {s with heap:=s.heap.push {cls:= .type "range",data:= .fields #[.int lo t,.int hi u,.int 1 v]},toks:=tk}:=I.kept fun b o e=>Heap.get?_push_of_some _ e
 refine⟨(s.heap.push {cls:= .type "range",data:= .fields #[.int lo t,.int hi u,.int 1 v]}).objs.size,[(s.heap.push {cls:= .type "range",data:= .fields #[.int lo t,.int hi u,.int 1 v]}).objs.size],_,_,H,rfl,
  I1.kept (t':=tk) fun b o e=>Heap.get?_push_of_some _ e,turn_range _ lo (hi-lo).toNat,?_,fun b hb=>?_,q⟩
 ·have e1:lo+((0:Nat):Int)*1=lo:=by simp
  have e2:(((hi-lo).toNat:Nat):Int)-((0:Nat):Int)=Builtin.Range.rangeSize lo hi 1:=by rw[rangeSize_one];split<;>omega
  show IsRangeIter _ _ (lo+((0:Nat):Int)*1) ((((hi-lo).toNat:Nat):Int)-((0:Nat):Int)) 1
  rw[e1,e2]
  exact Heap.get?_push_size _ rfl
 ·have e:b=(s.heap.push {cls:= .type "range",data:= .fields #[.int lo t,.int hi u,.int 1 v]}).objs.size:=by simpa using hb
  subst e
  exact I1.fpOk (Nat.le_refl _) (I1.hok.fresh (Nat.le_refl _))
def iRng1(ta:TA):TI:=fun σ H R=>ta σ H fun vs H1=>∃j:Int,vs=[.int j]/\ -(2^62)<=j/\j<2^62/\R (Itr 0 j.toNat) H1
theorem pi_range1{a:Expr}{ta:TA}{p pos:Pos}(hg:Gl X "range")(hm:X.mg "range"=none)(ha:PA X [a] ta)(hs:starEach [a] X.env=[(false,eval a X.env)]:=by rfl):PI X tg (.Call (.Name "range" p) [a] [] pos) (iRng1 ta):=by
 intro pins s σ H R I h
 refine Call_ (ld_blt I hg hm boot_range (PyProof.Rows.callWith_type1 (thn (ha pos pins s σ H _ I h) fun us s1⟨vs,H1,I1,r1,q1⟩=>?_) hs rfl))
 obtain⟨j,e,q1,q2,q⟩:=q1
 subst e
 cases r1 with
 |cons r rr=>
  cases rr
  obtain⟨t,rfl⟩:=r
  exact call_range_1 (range_it I1 (by omega) (by omega) q1 q2 (by simpa using q))
def tFor(wi:TI)(g:TG)(tb:TS):TS:=fun D σ H=>wi σ H fun J H1=>∃W:Nat->Nat->St->Hp->Prop,(∃m,W 0 m σ H1)/\∀i m σ H,W i m σ H->
 (J.stop i H/\D.nx σ H)\/(J.go i H/\∃N:St->Hp->Prop,(∀σ' H',N σ' H'->∃m',m'<m/\W (i+1) m' σ' H')/\∀x H',J.yld i H x H'->g x σ H' fun σ2 H2=>tb {D with nx:=N,ct:=N,bk:=D.nx} σ2 H2)
def pinsAt(fp:List Addr)(h:Heap):List (Addr×Obj):=fp.filterMap fun b=>(h.get? b).map fun o=>(b,o)
theorem mem_pinsAt{fp:List Addr}{h:Heap}{b:Addr}{o:Obj}(hb:b∈fp)(e:h.get? b=some o):(b,o)∈pinsAt fp h:=List.mem_filterMap.mpr ⟨b,hb,by rw[e];rfl⟩
theorem of_pinsAt{fp:List Addr}{h:Heap}{p:Addr×Obj}(hp:p∈pinsAt fp h):p.1∈fp/\h.get? p.1=some p.2:=by
 obtain⟨b,hb,e⟩:=List.mem_filterMap.mp hp
 cases q:h.get? b with
 |none=>rw[q]at e;cases e
 |some o=>
  rw[q]at e
  have e':(b,o)=p:=Option.some.inj e
  subst e'
  exact⟨hb,q⟩
theorem Inv.pinned{pins:List (Addr×Obj)}{σ:St}{H:Hp}{s:Shared}{fp:List Addr}(I:Inv X pins σ H s)(hf:∀b∈fp,FpOk X pins H b) (ho:∀b∈fp,∃o,s.heap.get? b=some o/\∀v,o.data≠.cell v):Inv X (pins++pinsAt fp s.heap) σ H s:=
 I.pins_of fun p hp=>(List.mem_append.mp hp).elim (fun z=>I.pin p (List.mem_append_right _ z)) fun z=>by
  obtain⟨hb,e⟩:=of_pinsAt z
  obtain⟨f0,f1,f2,_⟩:=hf p.1 hb
  obtain⟨o,e',d⟩:=ho p.1 hb
  rw[e]at e';cases e'
  exact⟨e,f0,f1,f2,d⟩
theorem Inv.unpinned{pins pl:List (Addr×Obj)}{σ:St}{H:Hp}{s:Shared}(I:Inv X (pins++pl) σ H s):Inv X pins σ H s:=I.pins_of fun p hp=>I.pin p (List.mem_append_right _ (List.mem_append_left _ hp))
theorem ps_for{iter:Expr}{body:List Stmt}{wi:TI}{g:TG}{tb:TS}{pos:Pos}(hp:PassesOwn (model X.prog X.w) X.A X.env X.xe)(hc:X.calm=true)(hi:PI X tg iter wi)(hg:PG X tg g)(hb:PSs X body tb)
  (hs:∀x,foldedSetIterable iter X.env x=pure x:=by intro _;rfl):PS X (.For tg iter body [] pos) (tFor wi g tb):=by
 intro pins s σ H D I h
 refine wpAny_For (thn (hi pins s σ H _ I h) fun v s1 h1=>thn h1 fun itv s2 h2=>?_) hs
 obtain⟨it,fp,tn,J,H2,e,I2,T,st2,f2,W,⟨m0,w0⟩,turn⟩:=h2
 subst e
 have stat:∀{H':Hp},(∀b∈fp,H' b=none)->∀b∈fp,FpOk X pins H' b:=fun hn b hb=>⟨hn b hb,(f2 b hb).2⟩
 refine codeAny_forLoop_any (fun n s'=>∃i σ' H',Inv X pins σ' H' s'/\tn i s'.heap/\(∀b∈fp,H' b=none)/\W i n σ' H') ?_ m0 ⟨0,σ,H2,I2,st2,fun b hb=>(f2 b hb).1,w0⟩
 rintro n s3 ⟨i,σ3,H3,I3,st3,fr3,w3⟩
 rcases turn i n σ3 H3 w3 with⟨stop,qn⟩|⟨go,N,hN,step⟩
 ·refine wpAny_passesOwn hp (thn (T.done X rfl rfl rfl hc i pins s3 σ3 H3 X.xe I3 (stat fr3) st3 stop) fun r s4⟨hr,I4⟩=>?_)
  subst hr
  exact wpAny_execs_nil ⟨σ3,H3,I4,qn⟩
 ·refine wpAny_passesOwn hp (thn (T.item X rfl rfl rfl hc i pins s3 σ3 H3 X.xe I3 (stat fr3) st3 go) fun r s4⟨u,hr,h4⟩=>?_)
  subst hr
  refine wpAny_passesOwn hp (thn h4 fun _ s5⟨x,H5,I5,r5,y5,st5,fr5⟩=>?_)
  have I5':=I5.pinned (stat fr5) (T.obj _ _ st5)
  refine wpAny_passesOwn hp (thn (hg _ s5 σ3 H5 x u _ I5' r5 (step x H5 y5)) fun _ s6⟨σ6,H6,I6,q6⟩=>?_)
  refine wpAny_passesOwn hp (thn (hb _ s6 σ6 H6 _ I6 q6) fun f s7 q7=>?_)
  have again:∀{σ7:St}{H7:Hp},Inv X (pins++pinsAt fp s5.heap) σ7 H7 s7->N σ7 H7->∃m,m<n/\∃i σ' H',Inv X pins σ' H' s7/\tn i s7.heap/\(∀b∈fp,H' b=none)/\W i m σ' H':=fun{σ7 H7} I7 n7=>by
   obtain⟨m',hm,w7⟩:=hN σ7 H7 n7
   refine⟨m',hm,i+1,σ7,H7,I7.unpinned,T.keep _ _ _ st5 fun b hb o e=>(I7.pin (b,o) (List.mem_append_right _ (List.mem_append_right _ (mem_pinsAt hb e)))).1,fun b hb=>?_,w7⟩
   obtain⟨o,e,d⟩:=T.obj _ _ st5 b hb
   exact(I7.pin (b,o) (List.mem_append_right _ (List.mem_append_right _ (mem_pinsAt hb e)))).2.1
  cases f with
  |next=>obtain⟨σ7,H7,I7,n7⟩:=q7;exact again I7 n7
  |cont=>obtain⟨σ7,H7,I7,n7⟩:=q7;exact again I7 n7
  |brk=>obtain⟨σ7,H7,I7,q7⟩:=q7;exact⟨σ7,H7,I7.unpinned,q7⟩
  |ret v=>obtain⟨x7,σ7,H7,I7,r7,q7⟩:=q7;exact⟨x7,σ7,H7,I7.unpinned,r7,q7⟩
end
theorem for_list{K:PySem.W.Frag}{a:Addr}{xs:List V}{g:TG}{tb:TS}{D:Ends}{σ:St}{H:Hp}(Pv:Nat->St->Hp->Prop)(h0:Pv 0 σ H)(hl:∀i σ H,i<=xs.length->Pv i σ H->SqL K H a xs)
  (hs:∀i x σ H,xs[i]?=some x->Pv i σ H->g x σ H fun σ2 H2=>tb {D with nx:=Pv (i+1),ct:=Pv (i+1),bk:=D.nx} σ2 H2) (hd:∀σ H,Pv xs.length σ H->D.nx σ H):
  ∃W:Nat->Nat->St->Hp->Prop,(∃m,W 0 m σ H)/\∀i m σ H,W i m σ H->
   ((Itl K a).stop i H/\D.nx σ H)\/((Itl K a).go i H/\∃N:St->Hp->Prop,(∀σ' H',N σ' H'->∃m',m'<m/\W (i+1) m' σ' H')/\∀x H',(Itl K a).yld i H x H'->g x σ H' fun σ2 H2=>tb {D with nx:=N,ct:=N,bk:=D.nx} σ2 H2):=by
 refine⟨fun i m σ H=>m=xs.length-i/\i<=xs.length/\Pv i σ H,⟨xs.length,by simp,Nat.zero_le _,h0⟩,?_⟩
 rintro i m σ H ⟨rfl,hi,p⟩
 have q:=hl i σ H hi p
 by_cases hlt:i<xs.length
 ·refine .inr ⟨⟨xs,xs[i],q,by simp[hlt]⟩,Pv (i+1),fun σ' H' p'=>⟨xs.length-(i+1),by omega,rfl,hlt,p'⟩,fun x H' y=>?_⟩
  obtain⟨e,y⟩:=y
  subst e
  exact hs i x σ _ (y xs q) p
 ·have e:i=xs.length:=by omega
  subst e
  exact .inl ⟨⟨xs,q,Nat.le_refl _⟩,hd σ H p⟩
theorem for_tup{K:PySem.W.Frag}{a:Addr}{xs:List V}{g:TG}{tb:TS}{D:Ends}{σ:St}{H:Hp}(Pv:Nat->St->Hp->Prop)(h0:Pv 0 σ H)(hl:∀i σ H,i<=xs.length->Pv i σ H->SqT K H a xs)
  (hs:∀i x σ H,xs[i]?=some x->Pv i σ H->g x σ H fun σ2 H2=>tb {D with nx:=Pv (i+1),ct:=Pv (i+1),bk:=D.nx} σ2 H2) (hd:∀σ H,Pv xs.length σ H->D.nx σ H):
  ∃W:Nat->Nat->St->Hp->Prop,(∃m,W 0 m σ H)/\∀i m σ H,W i m σ H->
   ((Itt K a).stop i H/\D.nx σ H)\/((Itt K a).go i H/\∃N:St->Hp->Prop,(∀σ' H',N σ' H'->∃m',m'<m/\W (i+1) m' σ' H')/\∀x H',(Itt K a).yld i H x H'->g x σ H' fun σ2 H2=>tb {D with nx:=N,ct:=N,bk:=D.nx} σ2 H2):=by
 refine⟨fun i m σ H=>m=xs.length-i/\i<=xs.length/\Pv i σ H,⟨xs.length,by simp,Nat.zero_le _,h0⟩,?_⟩
 rintro i m σ H ⟨rfl,hi,p⟩
 have q:=hl i σ H hi p
 by_cases hlt:i<xs.length
 ·refine .inr ⟨⟨xs,xs[i],q,by simp[hlt]⟩,Pv (i+1),fun σ' H' p'=>⟨xs.length-(i+1),by omega,rfl,hlt,p'⟩,fun x H' y=>?_⟩
  obtain⟨e,y⟩:=y
  subst e
  exact hs i x σ _ (y xs q) p
 ·have e:i=xs.length:=by omega
  subst e
  exact .inl ⟨⟨xs,q,Nat.le_refl _⟩,hd σ H p⟩
theorem for_range{lo:Int}{n:Nat}{g:TG}{tb:TS}{D:Ends}{σ:St}{H:Hp}(Pv:Nat->St->Hp->Prop)(h0:Pv 0 σ H)
  (hs:∀i σ H,i<n->Pv i σ H->g (.int (lo+i)) σ H fun σ2 H2=>tb {D with nx:=Pv (i+1),ct:=Pv (i+1),bk:=D.nx} σ2 H2) (hd:∀σ H,Pv n σ H->D.nx σ H):
  ∃W:Nat->Nat->St->Hp->Prop,(∃m,W 0 m σ H)/\∀i m σ H,W i m σ H->
   ((Itr lo n).stop i H/\D.nx σ H)\/((Itr lo n).go i H/\∃N:St->Hp->Prop,(∀σ' H',N σ' H'->∃m',m'<m/\W (i+1) m' σ' H')/\∀x H',(Itr lo n).yld i H x H'->g x σ H' fun σ2 H2=>tb {D with nx:=N,ct:=N,bk:=D.nx} σ2 H2):=by
 refine⟨fun i m σ H=>m=n-i/\i<=n/\Pv i σ H,⟨n,by simp,Nat.zero_le _,h0⟩,?_⟩
 rintro i m σ H ⟨rfl,hi,p⟩
 by_cases hlt:i<n
 ·refine .inr ⟨hlt,Pv (i+1),fun σ' H' p'=>⟨n-(i+1),by omega,rfl,hlt,p'⟩,fun x H' y=>?_⟩
  obtain⟨e,y⟩:=y
  subst e y
  exact hs i σ _ hlt p
 ·have e:i=n:=by omega
  subst e
  exact .inl ⟨Nat.le_refl _,hd σ H p⟩
abbrev R2:=V->V->Hp->VK->Prop
def OpR(X:Cx)(f:Value->Value->Sem Value)(r:R2):Prop:=
 ∀(pins:List (Addr×Obj))(s:Shared)(σ:St)(H:Hp)(x y:V)(v u:Value)(Q:VK),Inv X pins σ H s->RelV x v->RelV y u->r x y H Q->
  wpAny (model X.prog X.w) X.A (f v u) (EP X pins σ Q) X.xe s
def UnR(X:Cx)(f:Value->Sem Value)(r:V->Hp->VK->Prop):Prop:=
 ∀(pins:List (Addr×Obj))(s:Shared)(σ:St)(H:Hp)(x:V)(v:Value)(Q:VK),Inv X pins σ H s->RelV x v->r x H Q->
  wpAny (model X.prog X.w) X.A (f v) (EP X pins σ Q) X.xe s
def CallR(X:Cx)(f:Value)(r:List V->Hp->VK->Prop):Prop:=
 ∀(pins:List (Addr×Obj))(s:Shared)(σ:St)(H:Hp)(xs:List V)(us:List Value)(Q:VK),Inv X pins σ H s->Vals xs us->r xs H Q->
  wpAny (model X.prog X.w) X.A (call f us) (EP X pins σ Q) X.xe s
def TruR(X:Cx)(r:V->Hp->(Bool->Hp->Prop)->Prop):Prop:=
 ∀(pins:List (Addr×Obj))(s:Shared)(σ:St)(H:Hp)(x:V)(v:Value)(Q:Bool->Hp->Prop),Inv X pins σ H s->RelV x v->r x H Q->
  wpAny (model X.prog X.w) X.A (truthy v) (TP X pins σ Q) X.xe s
def tOp(r:R2)(ta tb:TE):TE:=fun σ H Q=>ta σ H fun x H1=>tb σ H1 fun y H2=>r x y H2 Q
def tUn(r:V->Hp->VK->Prop)(ta:TE):TE:=fun σ H Q=>ta σ H fun x H1=>r x H1 Q
def rI(C:Int->Int->Prop)(g:Int->Int->V):R2:=fun x y H Q=>∃i j,x= .int i/\y= .int j/\C i j/\Q (g i j) H
def rI0(g:Int->Int->V):R2:=fun x y H Q=>∃i j,x= .int i/\y= .int j/\Q (g i j) H
def rU(g:Int->V):V->Hp->VK->Prop:=fun x H Q=>∃i,x= .int i/\Q (g i) H
section
variable{X:Cx}{a b c:Expr}{ta tb tc:TE}{pos:Pos}
theorem binT(ha:PE X a ta)(hb:PE X b tb){pins:List (Addr×Obj)}{s:Shared}{σ:St}{H:Hp}{R:V->V->Hp->Prop}(I:Inv X pins σ H s)
  (h:ta σ H fun x H1=>tb σ H1 fun y H2=>R x y H2) {Q:Value->Shared->Prop} {f:Value->Value->Sem Value}
  (hf:∀v u s2 x y H2,Inv X pins σ H2 s2->RelV x v->RelV y u->R x y H2->wpAny (model X.prog X.w) X.A (f v u) Q X.xe s2):
  wpAny (model X.prog X.w) X.A (eval a X.env) (fun v s₁=>wpAny (model X.prog X.w) X.A (eval b X.env) (fun u s₂=>wpAny (model X.prog X.w) X.A (f v u) Q X.xe s₂) X.xe s₁) X.xe s:=by
 refine thn (ha pins s σ H _ I h) fun v s1⟨x,H1,I1,r1,q1⟩=>?_
 refine thn (hb pins s1 σ H1 _ I1 q1) fun u s2⟨y,H2,I2,r2,q2⟩=>?_
 exact hf v u s2 x y H2 I2 r1 r2 q2
theorem pe_op{op:Operator}{r:R2}(ho:OpR X (binaryOp op) r)(ha:PE X a ta)(hb:PE X b tb):PE X (.BinOp a op b pos) (tOp r ta tb):=by
 intro pins s σ H Q I h
 exact wpAny_BinOp (binT ha hb I h fun v u s2 x y H2 I2 rx ry q=>ho pins s2 σ H2 x y v u Q I2 rx ry q)
theorem pe_un{op:UnaryOp}{r:V->Hp->VK->Prop}(ho:UnR X (unaryOp op) r)(ha:PE X a ta):PE X (.UnaryOp op a pos) (tUn r ta):=by
 intro pins s σ H Q I h
 exact UnaryOp_ (thn (ha pins s σ H _ I h) fun v s1⟨x,H1,I1,r1,q1⟩=>ho pins s1 σ H1 x v Q I1 r1 q1)
theorem opI{f:Value->Value->Sem Value}{C:Int->Int->Prop}{g:Int->Int->Int}
  (rule:∀(i j:Int)(t u:Tok)(s:Shared)(Q:Value->Shared->Prop)(E:Value->Shared->Prop),C i j->Q (.int (g i j) s.toks) {s with toks:=s.toks+1}->wpAny (model X.prog X.w) X.A (f (.int i t) (.int j u)) Q E s):
  OpR X f (rI C fun i j=> .int (g i j)):=by
 intro pins s σ H x y v u Q I rx ry h
 obtain⟨i,j,rfl,rfl,hc,q⟩:=h
 obtain⟨t,rfl⟩:=rx
 obtain⟨t',rfl⟩:=ry
 exact rule i j t t' s _ _ hc ⟨.int (g i j),H,I.tok _,⟨_,rfl⟩,q⟩
theorem opI0{f:Value->Value->Sem Value}{g:Int->Int->Int}
  (rule:∀(i j:Int)(t u:Tok)(s:Shared)(Q:Value->Shared->Prop)(E:Value->Shared->Prop),Q (.int (g i j) s.toks) {s with toks:=s.toks+1}->wpAny (model X.prog X.w) X.A (f (.int i t) (.int j u)) Q E s):
  OpR X f (rI0 fun i j=> .int (g i j)):=by
 intro pins s σ H x y v u Q I rx ry h
 obtain⟨i,j,rfl,rfl,q⟩:=h
 obtain⟨t,rfl⟩:=rx
 obtain⟨t',rfl⟩:=ry
 exact rule i j t t' s _ _ ⟨.int (g i j),H,I.tok _,⟨_,rfl⟩,q⟩
theorem opB0{f:Value->Value->Sem Value}{g:Int->Int->Bool}
  (rule:∀(i j:Int)(t u:Tok)(s:Shared)(Q:Value->Shared->Prop)(E:Value->Shared->Prop),Q (.bool (g i j)) s->wpAny (model X.prog X.w) X.A (f (.int i t) (.int j u)) Q E s):
  OpR X f (rI0 fun i j=> .bl (g i j)):=by
 intro pins s σ H x y v u Q I rx ry h
 obtain⟨i,j,rfl,rfl,q⟩:=h
 obtain⟨t,rfl⟩:=rx
 obtain⟨t',rfl⟩:=ry
 exact rule i j t t' s _ _ ⟨.bl (g i j),H,I,rfl,q⟩
def CDiv(i j:Int):Prop:=0<j/\j<1073741824
def CPow(i j:Int):Prop:=0<=j/\j<=1000000/\i.natAbs<2^64
def CMul(i j:Int):Prop:=(-(2^64)<i/\i<2^64)\/(-(2^64)<j/\j<2^64)
theorem CMul.ok{i j:Int}(h:CMul i j):IntMulOk i j:=by
 rcases h with⟨h1,h2⟩|⟨h1,h2⟩
 ·exact .of_left (intBits_le_64 h1 h2)
 ·exact .of_right (intBits_le_64 h1 h2)
theorem op_add:OpR X (binaryOp .Add) (rI0 fun i j=> .int (i+j)):=opI0 fun _ _ _ _ _ _ _ q=>add_int q
theorem op_sub:OpR X (binaryOp .Sub) (rI0 fun i j=> .int (i-j)):=opI0 fun _ _ _ _ _ _ _ q=>sub_int q
theorem op_mul:OpR X (binaryOp .Mult) (rI CMul fun i j=> .int (i*j)):=opI fun _ _ _ _ _ _ _ hc q=>mul_int q hc.ok
theorem op_fdiv:OpR X (binaryOp .FloorDiv) (rI CDiv fun i j=> .int (i/j)):=opI fun i j _ _ _ _ _ hc q=>by
 have h1:(0:Int)<j:=hc.1
 have h2:j<1073741824:=hc.2
 exact floordiv_int (by omega) (by rw[Int.fdiv_eq_ediv_of_nonneg i (by omega)];exact q) (.inl (PyProof.noPylong_small (by omega)))
theorem op_mod:OpR X (binaryOp .Mod) (rI (fun _ j=>0<j) fun i j=> .int (i%j)):=opI fun i j _ _ _ _ _ hc q=>by
 have h1:(0:Int)<j:=hc
 exact mod_int' (by omega) (by rw[Int.fmod_eq_emod_of_nonneg i (by omega)];exact q)
theorem op_pow:OpR X (binaryOp .Pow) (rI CPow fun i j=> .int (i^j.toNat)):=opI fun _ _ _ _ _ _ _ hc q=>pow_int_small hc.1 hc.2.1 hc.2.2 q
theorem unI{f:Value->Sem Value}{g:Int->Int}
  (rule:∀(i:Int)(t:Tok)(s:Shared)(Q:Value->Shared->Prop)(E:Value->Shared->Prop),Q (.int (g i) s.toks) {s with toks:=s.toks+1}->wpAny (model X.prog X.w) X.A (f (.int i t)) Q E s):
  UnR X f (rU fun i=> .int (g i)):=by
 intro pins s σ H x v Q I rx h
 obtain⟨i,rfl,q⟩:=h
 obtain⟨t,rfl⟩:=rx
 exact rule i t s _ _ ⟨.int (g i),H,I.tok _,⟨_,rfl⟩,q⟩
theorem un_neg:UnR X (unaryOp .USub) (rU fun i=> .int (-i)):=unI fun _ _ _ _ _ q=>neg_int q
end
def scal:V->V->Bool
 | .non,.non=>true| .non,.int _=>true| .int _,.non=>true| .non,.bl _=>true| .bl _,.non=>true| .non,.str _=>true| .str _,.non=>true
 | .int _,.int _=>true| .bl _,.bl _=>true| .str _,.str _=>true| .byt _,.byt _=>true
 | .int _,.str _=>true| .str _,.int _=>true| .bl _,.str _=>true| .str _,.bl _=>true
 |_,_=>false
def rEq:R2:=fun x y H Q=>scal x y=true/\Q (.bl (decide (x=y))) H
def rNe:R2:=fun x y H Q=>scal x y=true/\Q (.bl (!decide (x=y))) H
theorem dec_int{i j:Int}:decide (V.int i=V.int j)=(i==j):=by
 rw[Bool.eq_iff_iff]
 simp
theorem dec_bl{i j:Bool}:decide (V.bl i=V.bl j)=(i==j):=by
 rw[Bool.eq_iff_iff]
 simp
theorem dec_str{i j:Str}:decide (V.str i=V.str j)=(i==j):=by
 rw[Bool.eq_iff_iff]
 simp
theorem dec_byt{i j:Array UInt8}:decide (V.byt i=V.byt j)=(i.toList==j.toList):=by
 rw[Bool.eq_iff_iff]
 cases i
 cases j
 simp
section
variable{X:Cx}{a b c:Expr}{ta tb tc:TE}{pos:Pos}
theorem fin_bl{pins:List (Addr×Obj)}{σ:St}{H:Hp}{s:Shared}{Q:VK}{k k':Bool}(I:Inv X pins σ H s)(q:Q (.bl k) H)(e:k=k'):EP X pins σ Q (.bool k') s:=by
 subst e
 exact⟨.bl k,H,I,rfl,q⟩
theorem op_eq:OpR X (compareOp .Eq) rEq:=by
 intro pins s σ H x y v u Q I rx ry h
 obtain⟨hs,q⟩:=h
 cases x with
 |non=>
  cases rx
  cases y with
  |non=>cases ry;exact PySem.EqNone.eq_none_none (fin_bl I q (by simp))
  |bl j=>cases ry;exact PySem.EqNone.eq_none_bool (fin_bl I q (by simp))
  |int j=>obtain⟨t',rfl⟩:=ry;exact PySem.EqNone.eq_none_int (fin_bl I q (by simp))
  |str j=>obtain⟨t',rfl⟩:=ry;exact PySem.EqNone.eq_none_str (fin_bl I q (by simp))
  |_=>exact absurd (show false=true from hs) Bool.false_ne_true
 |bl i=>
  cases rx
  cases y with
  |non=>cases ry;exact PySem.EqNone.eq_bool_none (fin_bl I q (by simp))
  |bl j=>cases ry;exact eq_bool (fin_bl I q dec_bl)
  |str j=>obtain⟨t',rfl⟩:=ry;exact PySem.EqMixed.eq_bool_str (fin_bl I q (by simp))
  |_=>exact absurd (show false=true from hs) Bool.false_ne_true
 |int i=>
  obtain⟨t,rfl⟩:=rx
  cases y with
  |non=>cases ry;exact PySem.EqNone.eq_int_none (fin_bl I q (by simp))
  |int j=>obtain⟨t',rfl⟩:=ry;exact eq_int (fin_bl I q dec_int)
  |str j=>obtain⟨t',rfl⟩:=ry;exact PySem.EqMixed.eq_int_str (fin_bl I q (by simp))
  |_=>exact absurd (show false=true from hs) Bool.false_ne_true
 |str i=>
  obtain⟨t,rfl⟩:=rx
  cases y with
  |non=>cases ry;exact PySem.EqNone.eq_str_none (fin_bl I q (by simp))
  |bl j=>cases ry;exact PySem.EqMixed.eq_str_bool (fin_bl I q (by simp))
  |int j=>obtain⟨t',rfl⟩:=ry;exact PySem.EqMixed.eq_str_int (fin_bl I q (by simp))
  |str j=>obtain⟨t',rfl⟩:=ry;exact eq_str (fin_bl I q dec_str)
  |_=>exact absurd (show false=true from hs) Bool.false_ne_true
 |byt i=>
  obtain⟨t,rfl⟩:=rx
  cases y with
  |byt j=>obtain⟨t',rfl⟩:=ry;exact PySem.W.eq_bytes (fin_bl I q dec_byt)
  |_=>exact absurd (show false=true from hs) Bool.false_ne_true
 |_=>cases y<;>exact absurd (show false=true from hs) Bool.false_ne_true
theorem op_ne:OpR X (compareOp .NotEq) rNe:=by
 intro pins s σ H x y v u Q I rx ry h
 obtain⟨hs,q⟩:=h
 cases x with
 |non=>
  cases rx
  cases y with
  |non=>cases ry;exact PySem.EqNone.ne_none_none (fin_bl I q (by simp))
  |bl j=>cases ry;exact PySem.EqNone.ne_none_bool (fin_bl I q (by simp))
  |int j=>obtain⟨t',rfl⟩:=ry;exact PySem.EqNone.ne_none_int (fin_bl I q (by simp))
  |str j=>obtain⟨t',rfl⟩:=ry;exact PySem.EqNone.ne_none_str (fin_bl I q (by simp))
  |_=>exact absurd (show false=true from hs) Bool.false_ne_true
 |bl i=>
  cases rx
  cases y with
  |non=>cases ry;exact PySem.EqNone.ne_bool_none (fin_bl I q (by simp))
  |bl j=>cases ry;exact ne_bool (fin_bl I q (congrArg not dec_bl))
  |str j=>obtain⟨t',rfl⟩:=ry;exact PySem.EqMixed.ne_bool_str (fin_bl I q (by simp))
  |_=>exact absurd (show false=true from hs) Bool.false_ne_true
 |int i=>
  obtain⟨t,rfl⟩:=rx
  cases y with
  |non=>cases ry;exact PySem.EqNone.ne_int_none (fin_bl I q (by simp))
  |int j=>obtain⟨t',rfl⟩:=ry;exact ne_int (fin_bl I q (congrArg not dec_int))
  |str j=>obtain⟨t',rfl⟩:=ry;exact PySem.EqMixed.ne_int_str (fin_bl I q (by simp))
  |_=>exact absurd (show false=true from hs) Bool.false_ne_true
 |str i=>
  obtain⟨t,rfl⟩:=rx
  cases y with
  |non=>cases ry;exact PySem.EqNone.ne_str_none (fin_bl I q (by simp))
  |bl j=>cases ry;exact PySem.EqMixed.ne_str_bool (fin_bl I q (by simp))
  |int j=>obtain⟨t',rfl⟩:=ry;exact PySem.EqMixed.ne_str_int (fin_bl I q (by simp))
  |str j=>obtain⟨t',rfl⟩:=ry;exact ne_str (fin_bl I q (congrArg not dec_str))
  |_=>exact absurd (show false=true from hs) Bool.false_ne_true
 |byt i=>
  obtain⟨t,rfl⟩:=rx
  cases y with
  |byt j=>obtain⟨t',rfl⟩:=ry;exact PySem.W.ne_bytes (fin_bl I q (congrArg not dec_byt))
  |_=>exact absurd (show false=true from hs) Bool.false_ne_true
 |_=>cases y<;>exact absurd (show false=true from hs) Bool.false_ne_true
theorem op_lt:OpR X (compareOp .Lt) (rI0 fun i j=> .bl (decide (i<j))):=opB0 fun _ _ _ _ _ _ _ q=>lt_int q
theorem op_le:OpR X (compareOp .LtE) (rI0 fun i j=> .bl (decide (i<=j))):=opB0 fun _ _ _ _ _ _ _ q=>le_int q
theorem op_gt:OpR X (compareOp .Gt) (rI0 fun i j=> .bl (decide (j<i))):=opB0 fun _ _ _ _ _ _ _ q=>gt_int q
theorem op_ge:OpR X (compareOp .GtE) (rI0 fun i j=> .bl (decide (j<=i))):=opB0 fun _ _ _ _ _ _ _ q=>ge_int q
theorem op_isN:OpR X (compareOp .Is) (fun x y H Q=>y= .non/\Q (.bl (decide (x= .non))) H):=by
 intro pins s σ H x y v u Q I rx ry h
 obtain⟨rfl,q⟩:=h
 cases ry
 refine is_none_gen (fin_bl I q ?_)
 cases x<;>first
  |(cases rx;rfl)
  |(obtain⟨t,rfl⟩:=rx;rfl)
theorem op_notN:OpR X (compareOp .IsNot) (fun x y H Q=>y= .non/\Q (.bl (!decide (x= .non))) H):=by
 intro pins s σ H x y v u Q I rx ry h
 obtain⟨rfl,q⟩:=h
 cases ry
 refine isnot_none_gen (fin_bl I q ?_)
 cases x<;>first
  |(cases rx;rfl)
  |(obtain⟨t,rfl⟩:=rx;rfl)
theorem nomark(b:Expr){op:CmpOp}(h:op≠.In:=by decide)(h2:op≠.NotIn:=by decide):behindInMarks op b=false:=by
 have e1:(op==CmpOp.In)=false:=by cases op<;>first|rfl|exact absurd rfl h
 have e2:(op==CmpOp.NotIn)=false:=by cases op<;>first|rfl|exact absurd rfl h2
 cases b<;>simp[behindInMarks,e1,e2]
theorem pe_cmpR{op:CmpOp}{r:R2}(ho:OpR X (compareOp op) r)(ha:PE X a ta)(hb:PE X b tb)(hm:behindInMarks op b=false):PE X (.Compare a [op] [b] pos) (tOp r ta tb):=by
 intro pins s σ H Q I h
 exact wpAny_Compare1 (binT ha hb I h fun v u s2 x y H2 I2 rx ry q=>ho pins s2 σ H2 x y v u Q I2 rx ry q) hm
def tTest(t:TE):TT:=fun σ H Q=>t σ H fun x H'=>∃k,x= .bl k/\Q k H'
theorem pt_cmpR{op:CmpOp}{r:R2}(ho:OpR X (compareOp op) r)(ha:PE X a ta)(hb:PE X b tb)(hm:behindInMarks op b=false):PT X (.Compare a [op] [b] pos) (tTest (tOp r ta tb)):=by
 intro pins s σ H Q I h
 refine wpAny_isTrue_Compare1 (thn (ha pins s σ H _ I h) fun v s1⟨x,H1,I1,r1,q1⟩=>thn (hb pins s1 σ H1 _ I1 q1) fun u s2⟨y,H2,I2,r2,q2⟩=>
  thn (ho pins s2 σ H2 x y v u _ I2 r1 r2 q2) fun c s3⟨z,H3,I3,r3,k,e,q3⟩=>?_) hm
 subst e
 cases r3
 exact wpAny_truthy_bool ⟨H3,I3,q3⟩
def tChain(r r':R2)(ta tb tc:TE):TE:=fun σ H Q=>ta σ H fun x H1=>tb σ H1 fun y H2=>r x y H2 fun z H3=>∃k,z= .bl k/\
 (if k=true then tc σ H3 fun w' H4=>r' y w' H4 Q else Q (.bl false) H3)
theorem pe_chain{op op':CmpOp}{r r':R2}(ho:OpR X (compareOp op) r)(ho':OpR X (compareOp op') r')(ha:PE X a ta)(hb:PE X b tb)(hc:PE X c tc)
  (hm:lastMarks [op,op'] [b,c]=false:=by with_unfolding_all rfl):PE X (.Compare a [op,op'] [b,c] pos) (tChain r r' ta tb tc):=by
 intro pins s σ H Q I h
 refine Compare_chain (thn (ha pins s σ H _ I h) fun v s1⟨x,H1,I1,r1,q1⟩=>chain_link (thn (hb pins s1 σ H1 _ I1 q1) fun u s2⟨y,H2,I2,r2,q2⟩=>
  thn (ho pins s2 σ H2 x y v u _ I2 r1 r2 q2) fun d s3⟨z,H3,I3,r3,k,e,q3⟩=>?_)) hm
 subst e
 cases r3
 refine wpAny_truthy_bool ?_
 cases k with
 |false=>exact ite_ff ⟨.bl false,H3,I3,rfl,q3⟩
 |true=>exact ite_tt (chain_last (thn (hc pins s3 σ H3 _ I3 q3) fun w' s4⟨z',H4,I4,r4,q4⟩=>ho' pins s4 σ H4 y z' u w' Q I4 r2 r4 q4))
theorem pt_chain{op op':CmpOp}{r r':R2}(ho:OpR X (compareOp op) r)(ho':OpR X (compareOp op') r')(ha:PE X a ta)(hb:PE X b tb)(hc:PE X c tc)
  (hm:lastMarks [op,op'] [b,c]=false:=by with_unfolding_all rfl):PT X (.Compare a [op,op'] [b,c] pos) (tTest (tChain r r' ta tb tc)):=by
 intro pins s σ H Q I h
 refine isTrue_chain (thn (ha pins s σ H _ I h) fun v s1⟨x,H1,I1,r1,q1⟩=>test_link (thn (hb pins s1 σ H1 _ I1 q1) fun u s2⟨y,H2,I2,r2,q2⟩=>
  thn (ho pins s2 σ H2 x y v u _ I2 r1 r2 q2) fun d s3⟨z,H3,I3,r3,k,e,q3⟩=>?_)) hm
 subst e
 cases r3
 refine wpAny_truthy_bool ?_
 cases k with
 |false=>
  obtain⟨k',e',q'⟩:=q3
  cases e'
  exact ite_ff ⟨H3,I3,q'⟩
 |true=>
  refine ite_tt (test_last (thn (hc pins s3 σ H3 _ I3 q3) fun w' s4⟨z',H4,I4,r4,q4⟩=>thn (ho' pins s4 σ H4 y z' u w' _ I4 r2 r4 q4) fun d' s5⟨z2,H5,I5,r5,k2,e2,q5⟩=>?_))
  subst e2
  cases r5
  exact wpAny_truthy_bool ⟨H5,I5,q5⟩
def TruV(K:PySem.W.Frag)(x:V)(H:Hp)(k:Bool):Prop:=
 match x with
 | .non=>k=false
 | .bl b=>k=b
 | .int i=>k=(i !=0)
 | .str y=>y.length<=sizeLine/\k=((y.length:Int) !=0)
 | .byt y=>y.size<=sizeLine/\k=((y.size:Int) !=0)
 | .ref p=>(∃xs,SqL K H p xs/\k= !xs.isEmpty)\/(∃xs,SqT K H p xs/\k= !xs.isEmpty)\/∃kvs,H p=some (.dK kvs)/\k= !kvs.isEmpty
 |_=>False
theorem isEmpty_kv{κ:Type}{kvs:List (κ×V)}{vs:List (κ×Value)}(r:KV kvs vs):(!vs.isEmpty)= !kvs.isEmpty:=by
 cases r<;>rfl
theorem isEmpty_of{xs:List V}{its:List Value}(r:Vals xs its):(!its.toArray.isEmpty)= !xs.isEmpty:=by
 cases r<;>simp
theorem line63:(sizeLine:Nat)<2^63:=by rw[sizeLine_eq];decide
theorem tru_ok:TruR X (fun x H Q=>∃k,TruV X.K x H k/\Q k H):=by
 intro pins s σ H x v Q I rx h
 obtain⟨k,e,q⟩:=h
 have hl:=line63
 have hs:sizeLine=16777216:=sizeLine_eq
 cases x with
 |non=>
  cases rx
  have e':k=false:=e
  subst e'
  exact truthy_none ⟨H,I,q⟩
 |bl b=>
  cases rx
  have e':k=b:=e
  subst e'
  exact wpAny_truthy_bool ⟨H,I,q⟩
 |int i=>
  obtain⟨t,rfl⟩:=rx
  have e':k=(i !=0):=e
  subst e'
  exact PySem.P.truthy_int ⟨H,I,q⟩
 |str y=>
  obtain⟨t,rfl⟩:=rx
  obtain⟨hy,e'⟩:y.length<=sizeLine/\k=((y.length:Int) !=0):=e
  subst e'
  exact PySem.P.truthy_str (by omega) ⟨H,I.tok _,q⟩
 |byt y=>
  obtain⟨t,rfl⟩:=rx
  obtain⟨hy,e'⟩:y.size<=sizeLine/\k=((y.size:Int) !=0):=e
  subst e'
  exact PySem.W.truthy_bytes (by omega) ⟨H,I.tok _,q⟩
 |ref p=>
  cases rx
  have e':(∃xs,SqL X.K H p xs/\k= !xs.isEmpty)\/(∃xs,SqT X.K H p xs/\k= !xs.isEmpty)\/∃kvs,H p=some (.dK kvs)/\k= !kvs.isEmpty:=e
  rcases e' with⟨xs,hx,e'⟩|⟨xs,hx,e'⟩|⟨kvs,hx,e'⟩
  ·subst e'
   obtain⟨its,r,pl,hz⟩:=I.list hx
   have hlen:=r.length
   exact wpAny_truthy_list pl.isList (by simp only[List.size_toArray];omega) ⟨H,I.tok _,by rw[isEmpty_of r];exact q⟩
  ·subst e'
   obtain⟨its,r,pl,hz⟩:=I.tuple hx
   have hlen:=r.length
   exact truthy_tuple pl (by simp only[List.size_toArray];omega) ⟨H,I.tok _,by rw[isEmpty_of r];exact q⟩
  ·subst e'
   obtain⟨hz,hS,vs,r,m⟩:kvs.length<=sizeLine/\(p==sysModules)=false/\∃vs,KV kvs vs/\s.heap.DictOf (mixKind X.prog X.w) p vs:=I.hok p _ hx
   have hlen:kvs.length=vs.length:=Paired.length r
   exact wpAny_truthy_dict hS m (by omega) ⟨H,I.tok _,by rw[isEmpty_kv r];exact q⟩
 |_=>exact(show False from e).elim
theorem pt_truth(ha:PE X a ta)(he:∀whole,isTrue a X.env whole=(do let v<-whole;standAt a.pos;holding [v] (truthy v))):
  PT X a (fun σ H Q=>ta σ H fun x H'=>∃k,TruV X.K x H' k/\Q k H'):=by
 intro pins s σ H Q I h
 exact isTrue_plain (thn (ha pins s σ H _ I h) fun v s1⟨x,H1,I1,r1,q1⟩=>tru_ok pins s1 σ H1 x v Q I1 r1 q1) (he _)
theorem vals1{x:V}{us:List Value}(r:Vals [x] us):∃u,us=[u]/\RelV x u:=by
 cases r with
 |cons r1 r2=>cases r2;exact⟨_,rfl,r1⟩
theorem vals2{x y:V}{us:List Value}(r:Vals [x,y] us):∃u w',us=[u,w']/\RelV x u/\RelV y w':=by
 cases r with
 |cons r1 r2=>
  cases r2 with
  |cons r3 r4=>cases r4;exact⟨_,_,rfl,r1,r3⟩
theorem call_max2(hc:X.calm=true):CallR X (.builtin "max") (fun xs H Q=>∃i j,xs=[.int i,.int j]/\Q (.int (if j>i then j else i)) H):=by
 intro pins s σ H xs us Q I r h
 obtain⟨i,j,rfl,q⟩:=h
 obtain⟨u,w',rfl,⟨t,rfl⟩,⟨t',rfl⟩⟩:=vals2 r
 refine max_two_ints (I.ok.hd hc) fun h' tk k=>⟨_,H,I.kept k,?_,q⟩
 by_cases hj:j>i
 ·rw[if_pos hj,if_pos hj];exact⟨_,rfl⟩
 ·rw[if_neg hj,if_neg hj];exact⟨_,rfl⟩
end
structure ObjM(h:Heap)(x dx C:Addr)(mA:Str->Option Value):Prop where
 obj:h.get? x=some (PySem.W.instObj C dx)
 ns:h.Ns1 dx mA
 ne:dx≠x
theorem lookIn_ns{h:Heap}{dx:Addr}{mA:Str->Option Value}(n:h.Ns1 dx mA):∃od,h.get? dx=some od/\∀name,PySem.W.lookIn name od=some (mA name):=by
 obtain⟨o,es,ep,ho,hd,hk,_,hm⟩:=n
 refine⟨o,ho,fun name=>?_⟩
 have e:=hm name
 unfold nsFind findBy at e
 rw[<-Array.find?_toList]at e
 unfold PySem.W.lookIn
 rw[hd]
 dsimp only
 split
 ·rename_i y q
  rw[q]at e
  exact congrArg some e
 ·rename_i q
  rw[q]at e
  have a:es.toList.any (·.refKey)=false:=by
   rw[List.any_eq_false]
   intro y hy
   obtain⟨z,t,hkey⟩:=hk y (Array.mem_toList_iff.mp hy)
   simp[DictEntry.refKey,hkey]
  have a':¬es.toList.any (·.refKey)=true:=by rw[a];exact Bool.false_ne_true
  rw[if_neg a']
  exact congrArg some e
theorem ObjM.look{h:Heap}{x dx C:Addr}{mA:Str->Option Value}(I:ObjM h x dx C mA):∃od,PySem.W.InstAt h x (PySem.W.instObj C dx) C (some od)/\∀name,PySem.W.lookIn name od=some (mA name):=
 let⟨od,ho,hl⟩:=lookIn_ns I.ns
 ⟨od,⟨I.obj,rfl,rfl,ho⟩,hl⟩
section
variable{prog:Program}{w:World}{A:Around}{E:Value->Shared->Prop}{s:Shared}{K:PySem.W.Frag}{x dx C f:Addr}{mA:Str->Option Value}{name:Str}{v:Value}
theorem get_meth{pl:Sem Bool}{Q:Value×List Value->Shared->Prop}(X:K.In s.heap)(I:ObjM s.heap x dx C mA)(hg:PySem.W.plainGet K C name=true)
  (hf:PySem.W.findIn K (.ref C) name=some (some (.ref f)))(ht:PySem.W.isFn K (.ref f)=true)(hv:mA name=none)(h:Q (.ref f,[.ref x]) s):
  wpAny (model prog w) A (getMethod (.ref x) name pl) Q E s:=by
 obtain⟨od,J,hl⟩:=I.look
 exact PySem.W.method_fn X J (PySem.W.plainGet_of hg).1 (PySem.W.plainGet_of hg).2 hf (beq_iff_eq.mp ht) (by show(PySem.W.lookIn name od).map (·.isSome)=some false;rw[hl,hv];rfl) h
theorem make_map0{R:Result->Shared->Prop}(X:K.In s.heap)(hm:PySem.W.makesIn K C=true)
  (hi:PySem.W.findIn K (.ref C) "__init__"=some (some (.builtin "object.__init__")))
  (hb:∀self,PySem.W.Looks (model prog w) s.heap (bindSpecial (.builtin "object.__init__") self) (.builtin "object.__init__",[self]))
  (h:codeAny (model prog w) (A.under (.builtin "type.__call__" ⟨[.ref C],[]⟩)) (.call (.builtin "object.__init__") ⟨[.ref (s.heap.objs.size+1)],[]⟩) (PySem.W.InitBack (s.heap.objs.size+1) R)
   {s with heap:=(s.heap.push PySem.W.emptyDict).push (PySem.W.instObj C s.heap.objs.size)}):
  codeAny (model prog w) A (.call (.ref C) ⟨[],[]⟩) R s:=by
 obtain⟨hh,g,d,t,os⟩:=s
 exact PySem.W.make_core (PySem.W.makes_of X hm) (PySem.W.looks_findIn X hi) hb (.inr ⟨rfl,rfl⟩) h
end
theorem RelO.some_of{v:V}{o:Option Value}(r:RelO (some v) o):∃u,o=some u/\RelV v u:=by
 cases o with
 |none=>exact(show False from r).elim
 |some u=>exact⟨u,rfl,r⟩
theorem RelO.none_of{o:Option Value}(r:RelO none o):o=none:=by
 cases o with
 |none=>rfl
 |some u=>exact(show False from r).elim
theorem handed_of{v:V}{u:Value}(r:RelV v u):PySem.W.handedIn u=true:=by
 cases v with
 |non=>cases(show u=Value.none from r);rfl
 |bl b=>cases(show u=Value.bool b from r);rfl
 |int i=>obtain⟨t,e⟩:=(show∃t,u=Value.int i t from r);cases e;rfl
 |str x=>obtain⟨t,e⟩:=(show∃t,u=Value.str x t from r);cases e;rfl
 |byt b=>obtain⟨t,e⟩:=(show∃t,u=Value.bytes b t from r);cases e;rfl
 |flt b=>obtain⟨t,e⟩:=(show∃t,u=Value.float b t from r);cases e;rfl
 |ref a=>cases(show u=Value.ref a from r);rfl
 |ty n=>cases(show u=Value.type n from r);rfl
section
variable{P:Program}{w:World}{H H':Hp}{h h':Heap}{a C dx:Addr}{fs fs':List (Str×V)}
theorem ins_get(hok:HOk P w H h)(e:H a=some (.ins C dx fs)):∃mA,ObjM h a dx C mA/\(∀f,RelO (fs.lookup f) (mA f))/\PySem.Within mA (fs.map (·.1))/\fs.length<=1000/\H dx=some (.own a):=by
 obtain⟨d,z,ne,ob,mA,n,r,q⟩:=(show ObjOk P w H h a (.ins C dx fs)from hok a _ e)
 exact⟨mA,⟨ob,n,ne⟩,r,q,z,d⟩
end
structure Cls(K:PySem.W.Frag)(C:Addr):Prop where
 pg:PySem.W.plainGet K C Str.empty=true
 hd:PySem.W.hasDictIn K C=true
 po:PySem.W.plainOver K C=true
 sa:PySem.W.findIn K (.ref C) "__setattr__"=some (some (.builtin "object.__setattr__"))
theorem Cls.get{K:PySem.W.Frag}{C:Addr}(c:Cls K C)(f:Str):PySem.W.plainGet K C f=true:=c.pg
structure Meth(K:PySem.W.Frag)(C:Addr)(m:Str)(f:Addr):Prop where
 at_:PySem.W.findIn K (.ref C) m=some (some (.ref f))
 fn:PySem.W.isFn K (.ref f)=true
 kp:PySem.W.keepIn K (.ref f)=true
section
variable{X:Cx}{pins:List (Addr×Obj)}{σ:St}{H:Hp}{s:Shared}{a C dx:Addr}{fs:List (Str×V)}{f:Str}{v:V}{A:Around}{E:Value->Shared->Prop}
theorem getmeth_ok{m:Str}{g:Addr}{pl:Sem Bool}{Q:Value×List Value->Shared->Prop}(I:Inv X pins σ H s)(e:H a=some (.ins C dx fs))(c:Cls X.K C)(k:Meth X.K C m g)(l:fs.lookup m=none)
  (h:Q (.ref g,[.ref a]) s):wpAny (model X.prog X.w) A (getMethod (.ref a) m pl) Q E s:=by
 obtain⟨mA,O,r,_,_,_⟩:=ins_get I.hok e
 have hn:mA m=none:=RelO.none_of (by rw[<-l];exact r m)
 exact get_meth I.kIn O (c.get m) k.at_ k.fn hn h
theorem Inv.made(I:Inv X pins σ H s):Inv X pins σ (upd (upd H s.heap.objs.size (.own (s.heap.objs.size+1))) (s.heap.objs.size+1) (.ins C s.heap.objs.size []))
  {s with heap:=(s.heap.push PySem.W.emptyDict).push (PySem.W.instObj C s.heap.objs.size)}:=by
 have e1:(s.heap.push PySem.W.emptyDict).get? s.heap.objs.size=some PySem.W.emptyDict:=Heap.get?_push_size s.heap rfl
 have e2:((s.heap.push PySem.W.emptyDict).push (PySem.W.instObj C s.heap.objs.size)).get? (s.heap.objs.size+1)=some (PySem.W.instObj C s.heap.objs.size):=by
  have:=Heap.get?_push_size (s.heap.push PySem.W.emptyDict) (o:=PySem.W.instObj C s.heap.objs.size) rfl
  rwa [Heap.size_push]at this
 have e3:(s.heap.push PySem.W.emptyDict).Ns s.heap.objs.size (fun _=>none):=⟨PySem.W.emptyDict,#[],_,e1,rfl,(fun e he=>absurd he (by simp)),fun _=>rfl⟩
 have I1:=I.laid (a:=s.heap.objs.size) (o:= .own (s.heap.objs.size+1)) (h':=s.heap.push PySem.W.emptyDict) (t':=s.toks) (fun b u q=>Heap.get?_push_of_some _ q) (Nat.le_refl _) ⟨_,e1⟩
 refine I1.laid (a:=s.heap.objs.size+1) (o:= .ins C s.heap.objs.size []) (t':=s.toks) (fun b u q=>Heap.get?_push_of_some _ q) (Nat.le_of_eq (Heap.size_push _ _)) ?_
 have ne:s.heap.objs.size≠s.heap.objs.size+1:=Nat.ne_of_lt (Nat.lt_succ_self _)
 refine⟨by rw[upd_ne ne,upd_same],Nat.zero_le _,ne,e2,fun _=>none,(Heap.Ns1.of_empty e3).at fun o q=>Heap.get?_push_of_some _ q,fun _=>True.intro,fun y hy=>absurd rfl hy⟩
theorem attr_of{prog:Program}{w:World}{env:Env}{e:Expr}{f:Str}{pos:Pos}{s:Shared}{Q:Value->Shared->Prop}(hb:attributeBase e f env (eval e env)=eval e env)
  (h:wpAny (model prog w) A (eval e env) (fun o s₁=>wpAny (model prog w) A (getAttr o f true) Q E s₁) E s):wpAny (model prog w) A (eval (.Attribute e f pos) env) Q E s:=
 Attribute_any_ h (by rw[arm_eval_Attribute,hb])
end
section
variable{X:Cx}{o e value:Expr}{f:Str}{pos pos' tpos:Pos}{ta tv:TE}
theorem methcall_of{pl:Sem Bool}{m:Str}{apos:Pos}{args:List Expr}{pins:List (Addr×Obj)}{s:Shared}{σ:St}{H:Hp}{Q:Value->Shared->Prop}{te:TE}(he:PE X e te)(I:Inv X pins σ H s)
  (h:te σ H fun x H1=>∃a C dx fs g,x= .ref a/\H1 a=some (.ins C dx fs)/\Cls X.K C/\Meth X.K C m g/\fs.lookup m=none/\
   ∀s1,Inv X pins σ H1 s1->wpAny (model X.prog X.w) X.A (callWith pos (.ref g) [.ref a] (backTo pos (starEach args X.env)) (backToKw pos (keywordEach [] X.env))) Q X.xe s1)
  (ht:eval (.Call (.Attribute e m apos) args [] pos) X.env=(do
   let ov<-eval e X.env
   standAt apos.atName
   let(f,first)<-holding [ov] (getMethod ov m pl)
   callWith pos f first (backTo pos (starEach args X.env)) (backToKw pos (keywordEach [] X.env)))):
  wpAny (model X.prog X.w) X.A (eval (.Call (.Attribute e m apos) args [] pos) X.env) Q X.xe s:=by
 refine PySem.W.methodCall_KW (pl:=pl) (thn (he pins s σ H _ I h) fun u s1⟨x,H1,I1,rx,a,C,dx,fs,g,ex,ea,c,k,l,q⟩=>?_) ht
 subst ex
 obtain rfl:u=Value.ref a:=rx
 exact getmeth_ok I1 ea c k l (q s1 I1)
end
section
variable{X:Cx}{pins:List (Addr×Obj)}{σ:St}{H:Hp}{s:Shared}{A:Around}{E:Value->Shared->Prop}{Q:Value->Shared->Prop}{c:Value}{b:Bool}
inductive TyOf(K:PySem.W.Frag)(H:Hp):V->Value->Prop where
 |non:TyOf K H .non (.type "NoneType")
 |bl (x:Bool):TyOf K H (.bl x) (.type "bool")
 |int (i:Int):TyOf K H (.int i) (.type "int")
 |str (x:Str):TyOf K H (.str x) (.type "str")
 |flt (x:UInt64):TyOf K H (.flt x) (.type "float")
 |lst {a:Addr} {xs:List V} (e:H a=some (.lst xs)):TyOf K H (.ref a) (.type "list")
 |frz {a:Addr} {o:Obj} {xs:List V} (e:H a=some (.frz o (.lst xs))):TyOf K H (.ref a) (.type "list")
 |tup {a:Addr} {xs:List V} (e:H a=some (.tup xs)):TyOf K H (.ref a) (.type "tuple")
 |dK {a:Addr} {kvs:List (Key×V)} (e:H a=some (.dK kvs)):TyOf K H (.ref a) (.type "dict")
 |dT {a:Addr} {kvs:List (List Key×V)} (e:H a=some (.dT kvs)):TyOf K H (.ref a) (.type "dict")
 |ins {a C dx:Addr} {fs:List (Str×V)} (e:H a=some (.ins C dx fs)) (cl:Cls K C) (ha:PySem.W.findIn K (.ref C) "__class__"=some (some (.builtin "object.__class__")))
   (hn:PySem.W.specialIn K (.builtin "object.__class__") "__get__"=some (some (.builtin "getset_descriptor.__get__"))) (htk:PySem.W.takesIn K (.builtin "object.__class__")=some true)
   (hm:PySem.W.mroIn K C (.type "object")=some true):TyOf K H (.ref a) (.ref C)
theorem isinst_ok{x:V}{u t:Value}(I:Inv X pins σ H s)(rx:RelV x u)(ty:TyOf X.K H x t)(e:PySem.W.kitOne X.K t c=some b)(h:∀tk,Q (.bool b) {s with toks:=tk}):
  wpAny (model X.prog X.w) A (call (.builtin "isinstance") [u,c]) Q E s:=by
 cases ty with
 |non=>cases(show u=Value.none from rx);exact PySem.W.kia_one PySem.W.kitx_none I.kIn True.intro e (fun z=>nomatch z) h
 |bl y=>cases(show u=Value.bool y from rx);exact PySem.W.kia_one PySem.W.kitx_bool I.kIn True.intro e (fun z=>nomatch z) h
 |int i=>obtain⟨t,q⟩:=(show∃t,u=Value.int i t from rx);cases q;exact PySem.W.kia_one PySem.W.kitx_int I.kIn True.intro e (fun z=>nomatch z) h
 |str y=>obtain⟨t,q⟩:=(show∃t,u=Value.str y t from rx);cases q;exact PySem.W.kia_one PySem.W.kitx_str I.kIn True.intro e (fun z=>nomatch z) h
 |flt y=>obtain⟨t,q⟩:=(show∃t,u=Value.float y t from rx);cases q;exact PySem.W.kia_one PySem.W.kitx_float I.kIn True.intro e (fun z=>nomatch z) h
 |@lst a xs ea=>
  cases(show u=Value.ref a from rx)
  obtain⟨_,_,n,_,h1⟩:=(show ObjOk X.prog X.w H s.heap a (.lst xs)from I.hok a _ ea)
  exact PySem.W.kia_one PySem.W.kitx_list I.kIn ⟨_,h1,rfl⟩ e (fun z=>nomatch z) h
 |@frz a ob xs ea=>
  cases(show u=Value.ref a from rx)
  obtain⟨_,_,_,n,_,h1⟩:=(show ObjOk X.prog X.w H s.heap a (.frz ob (.lst xs))from I.hok a _ ea)
  exact PySem.W.kia_one PySem.W.kitx_list I.kIn ⟨_,h1,rfl⟩ e (fun z=>nomatch z) h
 |@tup a xs ea=>
  cases(show u=Value.ref a from rx)
  obtain⟨_,_,_,p⟩:=(show ObjOk X.prog X.w H s.heap a (.tup xs)from I.hok a _ ea)
  obtain⟨o,h1,h2,_⟩:=p
  exact PySem.W.kia_one PySem.W.kitx_tuple I.kIn ⟨o,h1,h2⟩ e (fun z=>nomatch z) h
 |@dK a kvs ea=>
  cases(show u=Value.ref a from rx)
  obtain⟨_,_,vs,_,p⟩:=(show ObjOk X.prog X.w H s.heap a (.dK kvs)from I.hok a _ ea)
  obtain⟨o,es,ep,h1,h2,_⟩:=p
  exact PySem.W.kia_one PySem.W.kitx_dict I.kIn ⟨o,h1,h2.1⟩ e (fun z=>nomatch z) h
 |@dT a kvs ea=>
  cases(show u=Value.ref a from rx)
  obtain⟨_,_,xs,_,o,es,ep,h1,h2,_⟩:=(show ObjOk X.prog X.w H s.heap a (.dT kvs)from I.hok a _ ea)
  exact PySem.W.kia_one PySem.W.kitx_dict I.kIn ⟨o,h1,h2.1⟩ e (fun z=>nomatch z) h
 |@ins a C dx fs ea cl ha hn htk hm=>
  cases(show u=Value.ref a from rx)
  obtain⟨mA,O,_⟩:=ins_get I.hok ea
  obtain⟨od,J,_⟩:=O.look
  exact PySem.W.kia_one (PySem.W.kitx_own (cl.get _) cl.hd ha hn htk hm) I.kIn J e (fun z=>nomatch z) h
end
structure Room(k:Nat)(A:Around):Prop where
 hd:A.handled=none
 dp:A.depth+3*k+5<recursionLimit
 un:A.units+16*k+200<cLine
theorem Room.mono{j k:Nat}{A:Around}(r:Room k A)(h:j<=k):Room j A:=⟨r.hd,by have:=r.dp;omega,by have:=r.un;omega⟩
theorem Room.deeper{k:Nat}{A:Around}(r:Room (k+1) A)(env:Env):Room k (A.deeper env):=
 ⟨r.hd,by have:=r.dp;show A.depth+1+3*k+5<_;omega,by have:=r.un;show A.units+3+16*k+200<_;omega⟩
theorem Room.in1{k:Nat}{A:Around}(r:Room (k+1) A):Room k A.in1:=
 ⟨r.hd,by have:=r.dp;show A.depth+3*k+5<_;omega,by have:=r.un;show A.units+1+16*k+200<_;omega⟩
theorem make_depth{A:Around}{C:Addr}{us:List Value}{kw:List (Str×Value)}:(A.under (.builtin "type.__call__" ⟨.ref C::us,kw⟩)).depth=A.depth+1:=by
 first|rfl|simp[Around.under,Code.weight,Code.isCreation,Code.isGuard,Code.isCaller,Code.frames,Code.isFrame,guardIds]
theorem make_units{A:Around}{C:Addr}{us:List Value}{kw:List (Str×Value)}:(A.under (.builtin "type.__call__" ⟨.ref C::us,kw⟩)).units=A.units+1:=by
 first|rfl|simp[Around.under,Code.cUnits,Code.frames,Code.isFrame]
theorem Room.make{k:Nat}{A:Around}(r:Room (k+1) A)(C:Addr)(us:List Value)(kw:List (Str×Value)):Room k (A.under (.builtin "type.__call__" ⟨.ref C::us,kw⟩)):=
 ⟨r.hd,by have:=r.dp;rw[make_depth];omega,by have:=r.un;rw[make_units];omega⟩
theorem Room.depth{k:Nat}{A:Around}(r:Room k A):A.depth<recursionLimit:=by have:=r.dp;omega
theorem Room.units{k:Nat}{A:Around}(r:Room k A):A.units+64<cLine:=by have:=r.un;omega
def tNil:TA:=fun _ H Q=>Q [] H
def tCons(ta:TE)(tr:TA):TA:=fun σ H Q=>ta σ H fun x H1=>tr σ H1 fun xs H2=>Q (x::xs) H2
section
variable{X:Cx}{e:Expr}{es:List Expr}{te:TE}{t:TA}{pos:Pos}
theorem pa_nil:PA X [] tNil:=fun _ _ _ _ H Q I h=>Calls.spliced_nil ⟨[],H,I,.nil,h⟩
theorem pa_cons(ha:PE X e te)(hr:PA X es t)(hs:starEach (e::es) X.env=(false,eval e X.env)::starEach es X.env:=by rfl):PA X (e::es) (tCons te t):=by
 intro pos pins s σ H Q I h
 rw[hs]
 show wpAny _ _ (spliced ((false,eval e X.env)::backTo pos (starEach es X.env))) _ _ s
 refine Calls.spliced_cons (thn (ha pins s σ H _ I h) fun u s1⟨x,H1,I1,r1,q1⟩=>?_)
 exact thn (hr pos pins s1 σ H1 _ I1 q1) fun us s2⟨xs,H2,I2,r2,q2⟩=>⟨x::xs,H2,I2,.cons r1 r2,q2⟩
def tLst(t:TA):TE:=fun σ H Q=>t σ H fun xs H1=>xs.length<=sizeLine/\∀p,H1 p=none->Q (.ref p) (upd H1 p (.lst xs))
theorem pe_lst(h:PA X es t):PE X (.List es pos) (tLst t):=by
 intro pins s σ H Q I hq
 refine wpAny_List_spliced (thn (h pos pins s σ H _ I hq) fun us s1⟨xs,H1,I1,r,z,q⟩=>⟨by rw[<-r.length];exact z,?_⟩)
 have hf:H1 s1.heap.objs.size=none:=I1.hok.fresh (Nat.le_refl _)
 refine⟨.ref s1.heap.objs.size,upd H1 s1.heap.objs.size (.lst xs),I1.laid (t':=s1.toks) (fun b u e=>Heap.get?_push_of_some _ e) (Nat.le_refl _) ?_,rfl,q _ hf⟩
 exact⟨z,us,0,r,Heap.get?_push_size _ rfl⟩
end
abbrev Sp:=List V->Hp->VK->XK->Prop
abbrev CXT:=List Env->Hp->Shared->XK->Value->Shared->Prop
structure Env0(P:Program)(w:World)(K:PySem.W.Frag)(mg:Str->Option Value)(base:Heap)(A:Around)(outer:List Env)(s:Shared)(H:Hp):Prop where
 frames:A.frames=some outer
 mod:Mod K mg base
 bs:∀b o,base.get? b=some o->s.heap.get? b=some o/\H b=none
 bsz:base.objs.size<=s.heap.objs.size
 funs:s.heap.FunFrames base outer
 frf:∀b∈frs outer,H b=none
 hok:HOk P w H s.heap
 bare:AllBare s.gens
def CE(outer:List Env)(P:Program)(w:World)(H:Hp)(s:Shared)(Q:VK)(u:Value)(s':Shared):Prop:=
 ∃v H',s'.os=s.os/\AllBare s'.gens/\Un (frs outer) [] H H' s.heap s'.heap/\HOk P w H' s'.heap/\RelV v u/\Q v H'
def CR(CX:CXT)(outer:List Env)(P:Program)(w:World)(H:Hp)(s:Shared)(Q:VK)(E:XK)(r:Result)(s':Shared):Prop:=
 match r with
 | .ok (.ret u)=>CE outer P w H s Q u s'
 | .ok _=>False
 | .error e=>CX outer H s E e s'
structure FnOk(P:Program)(w:World)(K:PySem.W.Frag)(mg:Str->Option Value)(base:Heap)(CX:CXT)(k:Nat)(f:Addr)(fd:FuncData)(ps:List Str)(sp:Sp):Prop where
 len:∀vs H Q E,sp vs H Q E->vs.length=ps.length
 run:∀(A:Around)(outer:List Env)(s:Shared)(H:Hp)(args:Args)(us:List Value)(vs:List V)(Q:VK)(E:XK),Room k A->Env0 P w K mg base A outer s H->BindsTo s fd args (ps.zip us)->Vals vs us->sp vs H Q E->
  codeAny (model P w) A (.call (.ref f) args) (CR CX outer P w H s Q E) s
theorem FnOk.mono{P:Program}{w:World}{K:PySem.W.Frag}{mg:Str->Option Value}{base:Heap}{CX:CXT}{j k:Nat}{f:Addr}{fd:FuncData}{ps:List Str}{sp:Sp}(F:FnOk P w K mg base CX j f fd ps sp)(h:j<=k):
  FnOk P w K mg base CX k f fd ps sp:=⟨F.len,fun A outer s H args us vs Q E hr=>F.run A outer s H args us vs Q E (hr.mono h)⟩
theorem Env0.make{P:Program}{w:World}{K:PySem.W.Frag}{mg:Str->Option Value}{base:Heap}{A:Around}{outer:List Env}{s:Shared}{H:Hp}(e:Env0 P w K mg base A outer s H)(C:Addr)(us:List Value)(kw:List (Str×Value)):
  Env0 P w K mg base (A.under (.builtin "type.__call__" ⟨.ref C::us,kw⟩)) outer s H:=⟨by first|exact e.frames|(simpa[Around.under,Code.envs,Code.isFrame,pushEnvs]using e.frames),e.mod,e.bs,e.bsz,e.funs,e.frf,e.hok,e.bare⟩
theorem Env0.in1{P:Program}{w:World}{K:PySem.W.Frag}{mg:Str->Option Value}{base:Heap}{A:Around}{outer:List Env}{s:Shared}{H:Hp}(e:Env0 P w K mg base A outer s H):
  Env0 P w K mg base A.in1 outer s H:=⟨e.frames,e.mod,e.bs,e.bsz,e.funs,e.frf,e.hok,e.bare⟩
section
variable{X:Cx}{pins:List (Addr×Obj)}{σ:St}{H:Hp}{s s':Shared}
theorem Inv.env0(I:Inv X pins σ H s):Env0 X.prog X.w X.K X.mg X.base X.A X.stack s H:=
 ⟨I.ok.frames,I.ok.mod,I.bs,Nat.le_trans I.ok.bsz I.sz,I.stack,I.stkFree,I.hok,I.bare⟩
theorem Inv.after{Q:VK}{u:Value}(I:Inv X pins σ H s)(h:CE X.stack X.prog X.w H s Q u s'):EP X pins σ Q u s':=by
 obtain⟨v,H',os,bare,un,hok,r,q⟩:=h
 obtain⟨hh,g,d,t,os'⟩:=s'
 obtain rfl:os'=s.os:=os
 exact⟨v,H',I.call (h':=hh) (g':=g) (d':=d) (t':=t) (ch:=[]) un hok bare (fun b z=>absurd z (by simp)),r,q⟩
end
def tCall(sp:Sp)(dvs:List V)(E:XK)(t:TA):TE:=fun σ H Q=>t σ H fun vs H1=>sp (vs++dvs) H1 Q E
def tMeth(C:Addr)(m:Str)(sp:Sp)(dvs:List V)(E:XK)(ta:TE)(t:TA):TE:=fun σ H Q=>ta σ H fun x H1=>∃a dx fs,x= .ref a/\H1 a=some (.ins C dx fs)/\fs.lookup m=none/\
 t σ H1 fun vs H2=>sp (x::(vs++dvs)) H2 Q E
def Binds(K:PySem.W.Frag)(fd:FuncData)(ps:List Str)(ds:List Value):Prop:=
 ∀(s:Shared)(us:List Value),K.In s.heap->(us++ds).length=ps.length->BindsTo s fd ⟨us,[]⟩ (ps.zip (us++ds))
theorem Binds.all{K:PySem.W.Frag}{fd:FuncData}{ps:List Str}(h:∀us:List Value,us.length=ps.length->bindArgs fd ⟨us,[]⟩=pure (ps.zip us)):Binds K fd ps []:=fun s us _ hl=>by
 rw[List.append_nil]at hl⊢
 exact .of_eq (h us hl)
def Passes(CX:CXT)(X:Cx)(E:XK):Prop:=∀(pins:List (Addr×Obj))(σ:St)(H:Hp)(s:Shared)(e:Value)(s':Shared),Inv X pins σ H s->CX X.stack H s E e s'->X.xe e s'
section
variable{X:Cx}{CX:CXT}{k:Nat}{f C:Addr}{fd:FuncData}{ps:List Str}{sp:Sp}{dvs:List V}{ds:List Value}{E:XK}{x m:Str}{p pos apos:Pos}{e o:Expr}{es:List Expr}{ta:TE}{t:TA}
theorem run_fn{pins:List (Addr×Obj)}{σ:St}{H:Hp}{s:Shared}{Q:VK}{us:List Value}{vs:List V}(F:FnOk X.prog X.w X.K X.mg X.base CX k f fd ps sp)(hr:Room k X.A)(hb:Binds X.K fd ps ds)(hd:Vals dvs ds)(hx:Passes CX X E)
  (I:Inv X pins σ H s)(r:Vals vs us)(h:sp (vs++dvs) H Q E):wpAny (model X.prog X.w) X.A (call (.ref f) us) (EP X pins σ Q) X.xe s:=by
 have r2:Vals (vs++dvs) (us++ds):=r.append hd
 have hl:(us++ds).length=ps.length:=by rw[<-r2.length];exact F.len _ _ _ _ h
 refine wpAny_call (codeAny_mono (F.run X.A X.stack s H ⟨us,[]⟩ (us++ds) (vs++dvs) Q E hr I.env0 (hb s us I.kIn hl) r2 h) fun r s' hq=>?_)
 cases r with
 |error e=>exact hx pins σ H s e s' I hq
 |ok fl=>
  cases fl with
  |ret u=>exact I.after hq
  |next=>exact False.elim hq
  |brk=>exact False.elim hq
  |cont=>exact False.elim hq
theorem pe_call(F:FnOk X.prog X.w X.K X.mg X.base CX k f fd ps sp)(hr:Room k X.A)(hg:Gl X x)(hm:X.mg x=some (.ref f))(hk:PySem.W.keepIn X.K (.ref f)=true)(hb:Binds X.K fd ps ds)(hd:Vals dvs ds)(hx:Passes CX X E)
  (ha:PA X (e::es) t)(hdb:(x==("__debug__":Str))=false:=by decide)(he:starEach (e::es) X.env=(false,eval e X.env)::starEach es X.env:=by rfl)(hpl:(backTo pos (starEach es X.env)).any (·.1)=false:=by rfl):
  PE X (.Call (.Name x p) (e::es) [] pos) (tCall sp dvs E t):=by
 intro pins s σ H Q I h
 refine wpAny_Call_Name_kw (ld_glob I hg hm ?_ hdb)
 refine PySem.W.callWith_K (h₀:=X.base) I.ok.mod.kin hk (thn (ha pos pins s σ H _ I h) fun us s1⟨vs,H1,I1,r,q⟩=>⟨I1.kIn,?_⟩) he hpl
 exact run_fn F hr hb hd hx I1 r q
theorem pe_meth{pl:Sem Bool}(he:PE X o ta)(c:Cls X.K C)(hm:Meth X.K C m f)(F:FnOk X.prog X.w X.K X.mg X.base CX k f fd ps sp)(hr:Room k X.A)(hb:Binds X.K fd ps ds)(hd:Vals dvs ds)(hx:Passes CX X E)(ha:PA X (e::es) t)
  (hst:starEach (e::es) X.env=(false,eval e X.env)::starEach es X.env:=by rfl)(hpl:(backTo pos (starEach es X.env)).any (·.1)=false:=by rfl)
  (ht:eval (.Call (.Attribute o m apos) (e::es) [] pos) X.env=(do
   let ov<-eval o X.env
   standAt apos.atName
   let(f,first)<-holding [ov] (getMethod ov m pl)
   callWith pos f first (backTo pos (starEach (e::es) X.env)) (backToKw pos (keywordEach [] X.env))):=by rfl):
  PE X (.Call (.Attribute o m apos) (e::es) [] pos) (tMeth C m sp dvs E ta t):=by
 intro pins s σ H Q I h
 refine PySem.W.methodCall_KW (pl:=pl) (thn (he pins s σ H _ I h) fun u s1⟨x,H1,I1,rx,a,dx,fs,ex,ea,l,q⟩=>?_) ht
 subst ex
 obtain rfl:u=Value.ref a:=rx
 refine getmeth_ok I1 ea c hm l ?_
 refine PySem.W.callWith_K (first:=[.ref a]) (h₀:=X.base) I.ok.mod.kin hm.kp (thn (ha pos pins s1 σ H1 _ I1 q) fun us s2⟨vs,H2,I2,r,q2⟩=>⟨I2.kIn,?_⟩) hst hpl
 exact run_fn (us:= .ref a::us) (vs:= .ref a::vs) F hr hb hd hx I2 (.cons rfl r) q2
structure Mk(K:PySem.W.Frag)(C f:Addr):Prop where
 makes:PySem.W.makesIn K C=true
 init:PySem.W.findIn K (.ref C) "__init__"=some (some (.ref f))
 fn:PySem.W.isFn K (.ref f)=true
 kp:PySem.W.keepIn K (.ref C)=true
end
section
variable{X:Cx}{CX:CXT}{k:Nat}{f C:Addr}{fd:FuncData}{ps ks:List Str}{sp:Sp}{E:XK}{x m:Str}{p pos apos kpos:Pos}{e o:Expr}{es:List Expr}{kws:List Keyword}{te ta:TE}{t tk:TA}{nm:Option Str}
variable{g:List Value->List Value->List Value}{gV:List V->List V->List V}
end
structure FnScope(N P:List Str)(sc:Scope):Prop where
 kind:sc.kind= .function
 co:sc.isCoroutine=false
 gen:sc.isGenerator=false
 nd:N.Nodup
 pre:N.take P.length=P
 par:∀x∈P,sc.names.lookup x=some .local\/sc.names.lookup x=some .cell
 nofree:∀y∈sc.names,y.2≠.free
theorem bindL_out{kindOf:Str->Option NameKind}{x:Str}:∀{binds:List (Str×Value)}{m:Str->Option Value},(∀v,(x,v) ∉ binds)->bindL kindOf binds m x=m x
 |[],_,_=>rfl
 |(n,v)::r,m,h=>by
  unfold bindL
  rw[bindL_out fun w hw=>h w (List.mem_cons_of_mem _ hw)]
  split
  ·have:x≠n:=by rintro rfl;exact h v List.mem_cons_self
   simp[this]
  ·rfl
theorem bindC_out{kindOf:Str->Option NameKind}{x:Str}:∀{binds:List (Str×Value)}{m:Str->Option Value},(∀v,(x,v) ∉ binds)->bindC kindOf binds m x=m x
 |[],_,_=>rfl
 |(n,v)::r,m,h=>by
  unfold bindC
  rw[bindC_out fun w hw=>h w (List.mem_cons_of_mem _ hw)]
  split
  ·rfl
  ·have:x≠n:=by rintro rfl;exact h v List.mem_cons_self
   simp[this]
theorem bindL_get{kindOf:Str->Option NameKind}{x:Str}{v:Value}:∀{P:List Str}{vs:List Value}{i:Nat}{m:Str->Option Value},P.Nodup->P[i]?=some x->vs[i]?=some v->kindOf x=some .local->
  bindL kindOf (P.zip vs) m x=some v
 |[],_,_,_,_,h,_,_=>by simp at h
 |_::_,[],_,_,_,_,h,_=>by simp at h
 |p::P,w::vs,0,m,nd,h1,h2,hk=>by
  simp at h1 h2;subst h1;subst h2
  show bindL kindOf ((p,w)::P.zip vs) m p=_
  unfold bindL
  rw[bindL_out fun v hv=>(List.nodup_cons.mp nd).1 (List.of_mem_zip hv).1,if_pos hk]
  simp
 |p::P,w::vs,i+1,m,nd,h1,h2,hk=>by
  show bindL kindOf ((p,w)::P.zip vs) m x=_
  unfold bindL
  exact bindL_get (i:=i) (List.nodup_cons.mp nd).2 (by simpa using h1) (by simpa using h2) hk
theorem bindC_get{kindOf:Str->Option NameKind}{x:Str}{v:Value}:∀{P:List Str}{vs:List Value}{i:Nat}{m:Str->Option Value},P.Nodup->P[i]?=some x->vs[i]?=some v->kindOf x≠some .local->
  bindC kindOf (P.zip vs) m x=some v
 |[],_,_,_,_,h,_,_=>by simp at h
 |_::_,[],_,_,_,_,h,_=>by simp at h
 |p::P,w::vs,0,m,nd,h1,h2,hk=>by
  simp at h1 h2;subst h1;subst h2
  show bindC kindOf ((p,w)::P.zip vs) m p=_
  unfold bindC
  rw[bindC_out fun v hv=>(List.nodup_cons.mp nd).1 (List.of_mem_zip hv).1,if_neg hk]
  simp
 |p::P,w::vs,i+1,m,nd,h1,h2,hk=>by
  show bindC kindOf ((p,w)::P.zip vs) m x=_
  unfold bindC
  exact bindC_get (i:=i) (List.nodup_cons.mp nd).2 (by simpa using h1) (by simpa using h2) hk
def start(N:List Str)(vs:List V):St:=vs.map some++List.replicate (N.length-vs.length) none
def cxOf(CX:CXT)(P:Program)(w:World)(K:PySem.W.Frag)(mg:Str->Option Value)(base:Heap)(N:List Str)(qual:Str)(scope:Scope)(f:Addr)(cd:Value)(A:Around)(outer:List Env)(s:Shared)(H:Hp)(E:XK):Cx where
 prog:=P
 w:=w
 K:=K
 mg:=mg
 base:=base
 A:=A.deeper (envOfC qual scope s.heap.objs.size f cd)
 N:=N
 s₀:=s
 H₀:=H
 env:=envOfC qual scope s.heap.objs.size f cd
 outer:=outer
 stack:=envOfC qual scope s.heap.objs.size f cd::outer
 ex:=[]
 calm:=true
 fn:=fun _=>true
 pn:=[]
 xe:=fun e s'=>wpAny (model P w) (A.deeper (envOfC qual scope s.heap.objs.size f cd)) (leaving (envOfC qual scope s.heap.objs.size f cd) e) (fun _ s''=>CX outer H s E e s'') (fun e' s''=>CX outer H s E e' s'') s'
theorem cell_has{sc:Scope}{n:Nat}{x:Str}(h:sc.names.lookup x=some .cell):∃c,(cellsFrom n sc.names []).lookup x=some c:=by
 have q:=PySem.W.cellsFrom_some sc.names n [] (.inl h)
 exact Option.isSome_iff_exists.mp q
theorem inv_start{CX:CXT}{P:Program}{w:World}{K:PySem.W.Frag}{mg:Str->Option Value}{base:Heap}{N ps:List Str}{qual:Str}{scope:Scope}{f:Addr}{cd:Value}{A:Around}{outer:List Env}{s s1:Shared}{H:Hp}{E:XK}{us:List Value}{vs:List V}
  (S:FnScope N ps scope)(hd:A.handled=none)(e0:Env0 P w K mg base A outer s H)(hl:vs.length=ps.length)(r:Vals vs us)
  (x:InCallC s s.heap.objs.size (bindL (envOfC qual scope s.heap.objs.size f cd).kindOf (ps.zip us) fun _=>none) (cellsFrom (s.heap.objs.size+1) scope.names []) (bindC (envOfC qual scope s.heap.objs.size f cd).kindOf (ps.zip us) fun _=>none) s1):
  Inv (cxOf CX P w K mg base N qual scope f cd A outer s H E) [] (start N vs) H s1:=by
 have hpl:ps.length<=N.length:=by have:=congrArg List.length S.pre;rw[List.length_take]at this;omega
 obtain⟨h1,tk,rfl,hk⟩:=x.done
 have noA:∀b:Addr,b ∉ (cxOf CX P w K mg base N qual scope f cd A outer s H E).ex:=fun b z=>absurd (show b∈([]:List Addr)from z) (by simp)
 refine⟨⟨e0.mod,S.kind,rfl,rfl,Nat.le_refl _,fun y z c h1 h2=>?_,fun y hy=>?_,fun y c _ h=>?_,fun _=>hd,Around.frames_deeper e0.frames,.inr ⟨rfl,rfl⟩,fun b z=>absurd z (noA b),e0.bs,e0.bsz,fun b _ _=>noA b,fun b z=>absurd z (noA b),e0.funs,e0.frf⟩,
  rfl,e0.bare,Un.kept hk,⟨_,x.toInCall.ns,fun i y v h1 h2 h3=>?_⟩,fun y c h=>⟨_,x.cell y c h⟩,e0.hok.fresh (Nat.le_refl _),fun y c h=>?_,fun p hp=>absurd (show p∈([]:List (Addr×Obj))from hp) (by simp),e0.hok.kept hk,?_⟩
 ·exact name_of_addr x.apart (PySem.mem_of_lookup h1) (PySem.mem_of_lookup h2)
 ·have hy:scope.names.lookup y=some .cell\/scope.names.lookup y=some .free:=hy
  rcases hy with hy|hy
  ·exact cell_has hy
  ·exact absurd rfl (S.nofree _ (PySem.mem_of_lookup hy))
 ·exact Nat.le_of_lt (x.above y c (PySem.mem_of_lookup h))
 ·have hi:i<vs.length:=by
   unfold start at h2
   by_cases hi:i<vs.length
   ·exact hi
   ·rw[List.getElem?_append_right (by simpa using hi)]at h2
    rw[List.getElem?_replicate]at h2
    split at h2<;>cases h2
  have ha:vs[i]?=some v:=by
   unfold start at h2
   rw[List.getElem?_append_left (by simpa using hi),List.getElem?_map]at h2
   cases e:vs[i]? with
   |none=>rw[e]at h2;cases h2
   |some a=>rw[e]at h2;cases h2;rfl
  obtain⟨u,hu,rv⟩:=r.get ha
  have hp:ps[i]?=some y:=by
   rw[<-S.pre,List.getElem?_take_of_lt (by omega)];exact h1
  have ndP:ps.Nodup:=by rw[<-S.pre];exact S.nd.sublist (List.take_sublist _ _)
  refine⟨u,rv,?_⟩
  rcases S.par y (List.mem_of_getElem? hp)with k|k
  ·exact .inl ⟨k,bindL_get ndP hp hu k⟩
  ·obtain⟨c,e⟩:=cell_has (n:=s.heap.objs.size+1) k
   refine .inr ⟨.inl k,c,e,?_⟩
   have q:=x.cell y c e
   rw[bindC_get ndP hp hu (by show scope.names.lookup y≠_;rw[k];decide)]at q
   exact q
 ·exact e0.hok.fresh (Nat.le_of_lt (x.above y c (PySem.mem_of_lookup h)))
 ·unfold start
  show _=N.length
  rw[List.length_append,List.length_map,List.length_replicate]
  omega
theorem fn_of{CX:CXT}{P:Program}{w:World}{K:PySem.W.Frag}{mg:Str->Option Value}{base:Heap}{k:Nat}{f:Addr}{name qual:Str}{params:Arguments}{body:List Stmt}{scope:Scope}{dV kV doc pm cdv ct oc:Value}{an od:Option Addr}
  {osl:Array (Option Value)}{N ps:List Str}{sp:Sp}(lk:K.lookup f=some ⟨oc,od,.func (PySem.W.fnOf name qual params body scope dV kV doc pm an cdv ct),osl⟩)(hcd:PySem.W.codeIn K cdv qual=true)(S:FnScope N ps scope)
  (len:∀vs H Q E,sp vs H Q E->vs.length=ps.length)
  (hbody:∀(A:Around)(outer:List Env)(s:Shared)(H:Hp)(vs:List V)(Q:VK)(E:XK),Room k (A.deeper (envOfC qual scope s.heap.objs.size f cdv))->sp vs H Q E->
   ∃t,PSs (cxOf CX P w K mg base N qual scope f cdv A outer s H E) body t/\t {nx:=fun _ H'=>Q .non H',rt:=Q} (start N vs) H):
  FnOk P w K mg base CX (k+1) f (PySem.W.fnOf name qual params body scope dV kV doc pm an cdv ct) ps sp:=by
 refine⟨len,fun A outer s H args us vs Q E hr e0 hb r hsp=>?_⟩
 have hl:=len _ _ _ _ hsp
 have KX:K.In s.heap:=e0.mod.kin.keeps fun b o e=>(e0.bs b o e).1
 have lim:s.heap.NoLimit:=e0.mod.nolimit.keeps fun b o e=>(e0.bs b o e).1
 have hkind:∀y∈ps.zip us,scope.names.lookup y.1=some .local\/(scope.names.lookup y.1=some .cell/\((cellsFrom (s.heap.objs.size+1) scope.names []).lookup y.1).isSome=true):=fun⟨n,v⟩ hy=>by
  rcases S.par n (List.of_mem_zip hy).1 with q|q
  ·exact .inl q
  ·exact .inr ⟨q,PySem.W.cellsFrom_some _ _ _ (.inl q)⟩
 refine codeAny_call_function hr.depth (KX _ _ lk) rfl S.co S.gen rfl (PySem.W.codeRec_of KX hcd) (hb _ _ _ _ ?_)
 refine wpAny_newFunctionEnv_cells S.kind hkind fun env he s1 x=>?_
 subst he
 refine⟨lim.keeps x.toInCall.keep,codeAny_func ?_⟩
 obtain⟨t,ht,hq⟩:=hbody A outer s H vs Q E (hr.deeper _) hsp
 have I:Inv (cxOf CX P w K mg base N qual scope f cdv A outer s H E) [] (start N vs) H s1:=inv_start S hr.hd e0 hl r x
 refine wpAny_mono (ht [] s1 (start N vs) H _ I hq) (fun fl s' hs=>?_) fun e s' hs=>hs
 have fin:∀{σ':St}{H':Hp}{v:V}{u:Value},Inv (cxOf CX P w K mg base N qual scope f cdv A outer s H E) [] σ' H' s'->RelV v u->Q v H'->CE outer P w H s Q u s':=
  fun{σ' H' v u} J rv q=>⟨v,H',J.os,J.bare,J.base,J.hok,rv,q⟩
 cases fl with
 |ret u=>
  obtain⟨v,σ',H',J,rv,q⟩:=hs
  exact fin J rv q
 |next=>
  obtain⟨σ',H',J,q⟩:=hs
  exact fin (v:=V.non) (u:=Value.none) J rfl q
 |brk=>
  obtain⟨_,_,_,q⟩:=hs
  exact False.elim q
 |cont=>
  obtain⟨_,_,_,q⟩:=hs
  exact False.elim q
section
variable{X:Cx}{x:Str}{p pos:Pos}{e:Expr}{es:List Expr}{t:TA}{id T:String}{r:List V->Hp->VK->Prop}
def tCB(r:List V->Hp->VK->Prop)(t:TA):TE:=fun σ H Q=>t σ H fun vs H1=>r vs H1 Q
theorem pe_callB(hc:CallR X (.builtin id) r)(hg:Gl X x)(hm:X.mg x=none)(hv:bootBuiltins x=some (.builtin id))(ha:PA X (e::es) t)(hn:x≠"__name__":=by decide)(hdb:(x==("__debug__":Str))=false:=by decide)
  (he:starEach (e::es) X.env=(false,eval e X.env)::starEach es X.env:=by rfl)(hpl:(backTo pos (starEach es X.env)).any (·.1)=false:=by rfl):PE X (.Call (.Name x p) (e::es) [] pos) (tCB r t):=by
 intro pins s σ H Q I h
 refine wpAny_Call_Name_kw (ld_blt I hg hm hv ?_ hn hdb)
 exact PyProof.Rows.callWith_builtin1 (thn (ha pos pins s σ H _ I h) fun us s1⟨vs,H1,I1,r1,q1⟩=>hc pins s1 σ H1 vs us Q I1 r1 q1) he hpl
theorem pe_callTy(hc:CallR X (.type T) r)(hg:Gl X x)(hm:X.mg x=none)(hv:bootBuiltins x=some (.type T))(ha:PA X (e::es) t)(hn:x≠"__name__":=by decide)(hdb:(x==("__debug__":Str))=false:=by decide)
  (he:starEach (e::es) X.env=(false,eval e X.env)::starEach es X.env:=by rfl)(hpl:(backTo pos (starEach es X.env)).any (·.1)=false:=by rfl):PE X (.Call (.Name x p) (e::es) [] pos) (tCB r t):=by
 intro pins s σ H Q I h
 refine wpAny_Call_Name_kw (ld_blt I hg hm hv ?_ hn hdb)
 exact PyProof.Rows.callWith_type1 (thn (ha pos pins s σ H _ I h) fun us s1⟨vs,H1,I1,r1,q1⟩=>hc pins s1 σ H1 vs us Q I1 r1 q1) he hpl
end
end L2
namespace HT
open PySem PyProof.Rows
section
open PySem.SeqAt
open PySem.AutoSeq1 (wpAny_loadPart')
open PySem.MeetsSeq PySem.MeetsSeq2 PySem.MeetsSeq3
end
section
variable{prog:Program}{w:World}{A:Around}{E:Value->Shared->Prop}{s:Shared}
def sIx(n d:Nat):Option Int->Nat
 |none=>d
 |some v=>if v<0 then(v+(n:Int)).toNat else min v.toNat n
theorem sIx_none(n d:Nat):sIx n d none=d:=rfl
end
end HT
namespace L2
open PySem PySem.Spec PyProof.Rows
abbrev TO:=St->Hp->(Option Int->Hp->Prop)->Prop
def PO(X:Cx)(e:Option Expr)(t:TO):Prop:=
 ∀(pins:List (Addr×Obj))(s:Shared)(σ:St)(H:Hp)(Q:Option Int->Hp->Prop),Inv X pins σ H s->t σ H Q->
  wpAny (model X.prog X.w) X.A (evalPart e X.env) (fun u s'=>∃o H',Inv X pins σ H' s'/\IsPart u o/\Q o H') X.xe s
def tNoPart:TO:=fun _ H Q=>Q none H
def tPart(t:TE):TO:=fun σ H Q=>t σ H fun x H1=>∃i,x= .int i/\Q (some i) H1
section
variable{X:Cx}{e:Expr}{te:TE}{lo hi:Option Expr}{tl th:TO}{pos p2:Pos}
theorem po_none:PO X none tNoPart:=by
 intro pins s σ H Q I h
 rw[evalPart_none]
 exact wpAny_pure ⟨none,H,I,.none,h⟩
theorem po_some(h:PE X e te):PO X (some e) (tPart te):=by
 intro pins s σ H Q I hw
 rw[evalPart_some]
 refine thn (h pins s σ H _ I hw) fun u s1⟨x,H1,I1,r1,q1⟩=>?_
 obtain⟨i,rfl,q⟩:=q1
 obtain⟨t,rfl⟩:=r1
 exact⟨some i,H1,I1,.int i t,q⟩
def SlR(X:Cx)(r:V->Option Int->Option Int->Hp->VK->Prop):Prop:=
 ∀(pins:List (Addr×Obj))(s:Shared)(σ:St)(H:Hp)(x:V)(v vl vu:Value)(lo hi:Option Int)(sl:Addr)(Q:VK),Inv X pins σ H s->RelV x v->s.heap.IsSliceOf sl vl vu .none->IsPart vl lo->IsPart vu hi->r x lo hi H Q->
  ∃T id,typeLookup (.type T) "__getitem__"=pure (some (.builtin id))/\s.TypeIs v T/\wpAny (model X.prog X.w) X.A (getItem v (.ref sl)) (EP X pins σ Q) X.xe s
def tSl(r:V->Option Int->Option Int->Hp->VK->Prop)(te:TE)(tl th:TO):TE:=fun σ H Q=>te σ H fun x H1=>tl σ H1 fun l H2=>th σ H2 fun u H3=>r x l u H3 Q
theorem pe_slice{r:V->Option Int->Option Int->Hp->VK->Prop}(hr:SlR X r)(he:PE X e te)(hl:PO X lo tl)(hu:PO X hi th):PE X (.Subscript e (.Slice lo hi none p2) pos) (tSl r te tl th):=by
 intro pins s σ H Q I h
 refine Subscript_ (thn (he pins s σ H _ I h) fun v s1⟨x,H1,I1,r1,q1⟩=>?_)
 refine wpAny_Slice (thn (hl pins s1 σ H1 _ I1 q1) fun vl s2⟨l,H2,I2,pl,q2⟩=>thn (hu pins s2 σ H2 _ I2 q2) fun vu s3⟨u,H3,I3,pu,q3⟩=>?_)
 rw[evalPart_none]
 refine wpAny_pure ?_
 have I4:Inv X pins σ H3 {s3 with heap:=s3.heap.push {cls:= .type "slice",data:= .fields #[vl,vu,.none]}}:=I3.kept (t':=s3.toks) fun b ob q=>Heap.get?_push_of_some _ q
 obtain⟨T,id,hT,ht,hg⟩:=hr pins {s3 with heap:=s3.heap.push {cls:= .type "slice",data:= .fields #[vl,vu,.none]}} σ H3 x v vl vu l u s3.heap.objs.size Q I4 r1 (Heap.IsSliceOf.new ..) pl pu q3
 show wpAny (model X.prog X.w) X.A (subscriptTail e (.Slice lo hi none p2) v (.ref s3.heap.objs.size)) (EP X pins σ Q) X.xe {s3 with heap:=s3.heap.push {cls:= .type "slice",data:= .fields #[vl,vu,.none]}}
 exact tail_any (ops:=[.ref s3.heap.objs.size,v]) ht hT hg (by with_unfolding_all rfl)
def cutV(xs:List V)(lo hi:Option Int):List V:=(xs.drop (HT.sIx xs.length 0 lo)).take (HT.sIx xs.length xs.length hi-HT.sIx xs.length 0 lo)
theorem cutV_length(xs:List V)(lo hi:Option Int):(cutV xs lo hi).length<=xs.length:=by
 unfold cutV
 rw[List.length_take,List.length_drop]
 omega
end
def ixN(n:Nat)(i:Int):Option Nat:=if 0<=i then(if i<n then some i.toNat else none)else if-(n:Int)<=i then some (i+n).toNat else none
def atI{α:Type}(xs:List α)(i:Int):Option α:=(ixN xs.length i).bind fun j=>xs[j]?
theorem ixN_seq{n:Nat}{i:Int}{j:Nat}(h:ixN n i=some j):seqIndex? i n=some j/\j<n/\ -(n:Int)<=i/\i<n:=by
 unfold ixN at h
 by_cases h0:0<=i
 ·rw[if_pos h0]at h
  by_cases h1:i<n
  ·rw[if_pos h1]at h
   have e:i.toNat=j:=Option.some.inj h
   exact⟨by rw[seqIndex_of h0 h1,e],by omega,by omega,h1⟩
  ·rw[if_neg h1]at h;cases h
 ·rw[if_neg h0]at h
  by_cases h1: -(n:Int)<=i
  ·rw[if_pos h1]at h
   have e:(i+n).toNat=j:=Option.some.inj h
   exact⟨by rw[seqIndex_neg (by omega) h1,e],by omega,h1,by omega⟩
  ·rw[if_neg h1]at h;cases h
theorem atI_get{α:Type}{xs:List α}{i:Int}{v:α}(h:atI xs i=some v):∃j,seqIndex? i xs.length=some j/\xs[j]?=some v/\j<xs.length/\ -(xs.length:Int)<=i/\i<xs.length:=by
 unfold atI at h
 cases e:ixN xs.length i with
 |none=>rw[e]at h;cases h
 |some j=>
  rw[e]at h
  obtain⟨h1,h2,h3,h4⟩:=ixN_seq e
  exact⟨j,h1,h,h2,h3,h4⟩
theorem atI_nat{α:Type}{xs:List α}{j:Nat}{v:α}(h:xs[j]?=some v):atI xs (j:Int)=some v:=by
 have hj:j<xs.length:=(List.getElem?_eq_some_iff.mp h).1
 have e:ixN xs.length (j:Int)=some j:=by
  unfold ixN
  rw[if_pos (by omega),if_pos (by omega)];simp
 unfold atI;rw[e];exact h
theorem atI_last{α:Type}(xs:List α)(v:α):atI (xs++[v]) (-1)=some v:=by
 have hl:(xs++[v]).length=xs.length+1:=by simp
 have e:ixN (xs++[v]).length (-1)=some xs.length:=by
  unfold ixN
  rw[hl,if_neg (by decide),if_pos (by omega)]
  congr 1
  omega
 unfold atI
 rw[e]
 show(xs++[v])[xs.length]?=some v
 simp
def PlainIx(b:Expr):Prop:=∀o i,subscripted b false o i=operate [o,i] (getItem o i)
def IxR(X:Cx)(r:R2):Prop:=
 ∀(value slice:Expr)(pins:List (Addr×Obj))(s:Shared)(σ:St)(H:Hp)(x y:V)(v u:Value)(Q:VK),Inv X pins σ H s->RelV x v->RelV y u->r x y H Q->
  subscripted slice false v u=operate [v,u] (getItem v u)->wpAny (model X.prog X.w) X.A (subscriptTail value slice v u) (EP X pins σ Q) X.xe s
def MtR(X:Cx)(id:String)(r:V->List V->Hp->VK->Prop):Prop:=
 ∀(pins:List (Addr×Obj))(s:Shared)(σ:St)(H:Hp)(x:V)(xs:List V)(v:Value)(us:List Value)(Q:VK),Inv X pins σ H s->RelV x v->Vals xs us->r x xs H Q->
  wpAny (model X.prog X.w) X.A (call (.builtin id) (v::us)) (EP X pins σ Q) X.xe s
section
variable{X:Cx}{a b:Expr}{ta tb:TE}{pos:Pos}
theorem pe_ix{r:R2}(hr:IxR X r)(ha:PE X a ta)(hb:PE X b tb)(hs:PlainIx b):PE X (.Subscript a b pos) (tOp r ta tb):=by
 intro pins s σ H Q I h
 exact Subscript_ (binT ha hb I h fun v u s2 x y H2 I2 rx ry q=>hr a b pins s2 σ H2 x y v u Q I2 rx ry q (hs _ _))
def rIxL(K:PySem.W.Frag):R2:=fun x y H Q=>∃p xs i v,x= .ref p/\y= .int i/\SqL K H p xs/\atI xs i=some v/\Q v H
def rIxT(K:PySem.W.Frag):R2:=fun x y H Q=>∃p xs i v,x= .ref p/\y= .int i/\SqT K H p xs/\atI xs i=some v/\Q v H
theorem ix_list:IxR X (rIxL X.K):=by
 intro value slice pins s σ H x y v u Q I rx ry h hs
 obtain⟨p,xs,i,z,rfl,rfl,hq,he,q⟩:=h
 cases rx
 obtain⟨t,rfl⟩:=ry
 obtain⟨its,r,pl,hz⟩:=I.list hq
 obtain⟨j,h1,h2,h3,h4,h5⟩:=atI_get he
 obtain⟨w,ew,rw'⟩:=r.get h2
 have hl:=r.length
 have hn:=line63
 have fin:EP X pins σ Q w s:=⟨z,H,I,rw',q⟩
 by_cases h0:0<=i
 ·have hj:i.toNat=j:=by
   rw[seqIndex_of h0 h5]at h1
   exact Option.some.inj h1
  exact item_listR pl.isList h0 (by omega) (by rw[hj];simpa using ew) fin hs
 ·have hj:(i+(its.toArray.size:Int)).toNat=j:=by
   rw[seqIndex_neg (by omega) h4]at h1
   rw[List.size_toArray,<-hl]
   exact Option.some.inj h1
  exact subscriptTail_builtinR (x:=w) pl.isList.typeIs slot_list_getitem.lookup
   (wpAny_getItem_list_neg (Q:=fun r s'=>r=w/\EP X pins σ Q r s') pl.isList (by omega) (by rw[List.size_toArray]<;>omega) (by omega) (by rw[hj];simpa using ew) ⟨rfl,fin⟩) hs
theorem ix_tup:IxR X (rIxT X.K):=by
 intro value slice pins s σ H x y v u Q I rx ry h hs
 obtain⟨p,xs,i,z,rfl,rfl,hq,he,q⟩:=h
 cases rx
 obtain⟨t,rfl⟩:=ry
 obtain⟨its,r,pl,hz⟩:=I.tuple hq
 obtain⟨j,h1,h2,h3,h4,h5⟩:=atI_get he
 obtain⟨w,ew,rw'⟩:=r.get h2
 have hl:=r.length
 have hn:=line63
 have fin:EP X pins σ Q w s:=⟨z,H,I,rw',q⟩
 exact subscriptTail_builtinR (x:=w) pl.typeIs slot_tuple_getitem.lookup
  (getItem_tuple (j:=j) (Q:=fun r s'=>r=w/\EP X pins σ Q r s') pl (by omega) (by omega) (by rw[List.size_toArray,<-hl];exact h1) (by simpa using ew) ⟨rfl,fin⟩) hs
theorem mapSeq_set(its:List Value)(n j:Nat)(u:Value):Obj.mapSeq (·.setIfInBounds j u) {cls:= .type "list",data:= .seq its.toArray n}={cls:= .type "list",data:= .seq (its.set j u).toArray n}:=by
 simp[Obj.mapSeq]
theorem Inv.lst{pins:List (Addr×Obj)}{σ:St}{H:Hp}{s:Shared}{p:Addr}{xs:List V}(I:Inv X pins σ H s)(h:H p=some (.lst xs)):
  ∃(its:List Value)(n:Nat),Vals xs its/\s.heap.get? p=some {cls:= .type "list",data:= .seq its.toArray n}/\xs.length<=sizeLine:=by
 obtain⟨z,its,n,r,e⟩:=I.hok p _ h
 exact⟨its,n,r,e,z⟩
theorem Inv.lstUpd{pins:List (Addr×Obj)}{σ:St}{H:Hp}{s:Shared}{p:Addr}{xs ys:List V}{its its':List Value}{n n':Nat}{f:Obj->Obj}(I:Inv X pins σ H s)(h:H p=some (.lst xs))
  (ho:s.heap.get? p=some {cls:= .type "list",data:= .seq its.toArray n})(hf:f {cls:= .type "list",data:= .seq its.toArray n}={cls:= .type "list",data:= .seq its'.toArray n'})(r:Vals ys its')(hz:ys.length<=sizeLine)(t:Nat):
  Inv X pins σ (upd H p (.lst ys)) {s with heap:=s.heap.update p f,toks:=t}:=by
 have e:(s.heap.update p f).get? p=some {cls:= .type "list",data:= .seq its'.toArray n'}:=by
  rw[Heap.get?_update_self f ho (by rw[hf]<;>rfl),hf]
 refine I.write (x:=p) (e:=p) (by rw[h];trivial) (.inl rfl) (fun b u hb q=>(Heap.get?_update_other _ _ (Ne.symm hb)).trans q) ⟨_,e⟩ ?_
 exact⟨hz,its',n',r,e⟩
def rSetL:V->V->V->Hp->(Hp->Prop)->Prop:=fun o i v H Q=>∃p xs k j,o= .ref p/\i= .int k/\H p=some (.lst xs)/\ixN xs.length k=some j/\Q (upd H p (.lst (xs.set j v)))
theorem set_list:PSet X rSetL:=by
 intro pins s σ H o i v ov iv u Q I ro ri rv h
 obtain⟨p,xs,k,j,rfl,rfl,hp,hj,q⟩:=h
 cases ro
 obtain⟨t,rfl⟩:=ri
 obtain⟨its,n,r,ho,hz⟩:=I.lst hp
 obtain⟨h1,h2,h3,h4⟩:=ixN_seq hj
 have hl:=r.length
 have hn:=line63
 have I':Inv X pins σ (upd H p (.lst (xs.set j v))) {s with heap:=s.heap.update p (Obj.mapSeq (·.setIfInBounds j u))}:=
  I.lstUpd hp ho (mapSeq_set its n j u) (r.set rv j) (by rw[List.length_set];exact hz) s.toks
 by_cases h0:0<=k
 ·have hk:k.toNat=j:=by
   rw[seqIndex_of h0 h4]at h1
   exact Option.some.inj h1
  exact PySem.W.ki_setAt ho h0 (by omega) (by rw[List.size_toArray,<-hl];exact h4) (by rw[hk];exact⟨_,I',q⟩)
 ·have hk:(k+(its.toArray.size:Int)).toNat=j:=by
   rw[seqIndex_neg (by omega) h3]at h1
   rw[List.size_toArray,<-hl]
   exact Option.some.inj h1
  exact PySem.W.ki_setBack ho (by omega) (by rw[List.size_toArray,<-hl];exact h3) (by omega) (by rw[hk];exact⟨_,I',q⟩)
theorem slice_bounds(lo hi:Option Int)(n:Nat):(sliceBounds lo hi none n).1=((HT.sIx n 0 lo:Nat):Int)/\(sliceBounds lo hi none n).2.1=((HT.sIx n n hi:Nat):Int)/\(sliceBounds lo hi none n).2.2=1:=by
 refine⟨?_,?_,rfl⟩
 ·cases lo with
  |none=>simp[sliceBounds,HT.sIx]
  |some i=>
   simp only[sliceBounds,HT.sIx,Option.getD_none,show(1:Int)>0 by decide,if_true]
   by_cases h:i<0
   ·simp only[h,if_true]<;>omega
   ·simp only[h,if_false]<;>omega
 ·cases hi with
  |none=>simp[sliceBounds,HT.sIx]
  |some i=>
   simp only[sliceBounds,HT.sIx,Option.getD_none,show(1:Int)>0 by decide,if_true]
   by_cases h:i<0
   ·simp only[h,if_true]<;>omega
   ·simp only[h,if_false]<;>omega
theorem slicePick_cut(its:List Value)(lo hi:Option Int):slicePick its.toArray lo hi none=((its.drop (HT.sIx its.length 0 lo)).take (HT.sIx its.length its.length hi-HT.sIx its.length 0 lo)).toArray:=by
 obtain⟨h1,h2,h3⟩:=slice_bounds lo hi its.toArray.size
 unfold slicePick
 rw[h1,h2,h3]
 simp only[sliceRange_one,pick_run,List.size_toArray]<;>rfl
def rSlL(K:PySem.W.Frag):V->Option Int->Option Int->Hp->VK->Prop:=fun x lo hi H Q=>∃a xs,x= .ref a/\SqL K H a xs/\∀p,H p=none->Q (.ref p) (upd H p (.lst (cutV xs lo hi)))
theorem sl_list:SlR X (rSlL X.K):=by
 intro pins s σ H x v vl vu lo hi sl Q I rx hs pl pu h
 obtain⟨a,xs,rfl,hx,q⟩:=h
 cases rx
 obtain⟨its,r,ht,hz⟩:=I.list hx
 have hlen:=r.length
 refine⟨"list",_,slot_list_getitem.lookup,ht.isList.typeIs,?_⟩
 refine wpAny_getItem_list_slice ht.isList hs pl pu .none (by simp) ?_ (by rw[List.size_toArray]<;>omega)
 rw[slicePick_cut,<-hlen]
 refine⟨.ref s.heap.objs.size,_,I.laid (t':=s.toks) (o:= .lst (cutV xs lo hi)) (fun b ob q=>Heap.get?_push_of_some _ q) (Nat.le_refl _) ?_,rfl,q _ (I.hok.fresh (Nat.le_refl _))⟩
 exact⟨Nat.le_trans (cutV_length xs lo hi) hz,_,0,(r.drop (HT.sIx xs.length 0 lo)).take (HT.sIx xs.length xs.length hi-HT.sIx xs.length 0 lo),Heap.get?_push_size _ rfl⟩
def flatV:V->Bool
 | .non=>true
 | .bl _=>true
 | .int _=>true
 | .str _=>true
 |_=>false
def eqV:V->V->Bool
 | .non,.non=>true
 | .bl a,.bl b=>a==b
 | .bl a,.int b=>(if a then 1 else 0)==b
 | .int a,.bl b=>a==(if b then 1 else 0)
 | .int a,.int b=>a==b
 | .str a,.str b=>a==b
 |_,_=>false
theorem eqAt_V{A:Around}{s:Shared}{y x:V}{u v:Value}(ry:RelV y u)(rx:RelV x v)(fy:flatV y=true)(fx:flatV x=true):SeqAt.EqAt A s u v (eqV y x):=by
 cases y with
 |non=>
  cases ry
  cases x with
  |non=>cases rx;exact SeqAt.EqAt.same _
  |bl b=>cases rx;exact SeqAt.EqAt.none_bool b
  |int b=>obtain⟨t,rfl⟩:=rx;exact SeqAt.EqAt.none_int b t
  |str b=>obtain⟨t,rfl⟩:=rx;exact SeqAt.EqAt.none_str b t
  |_=>exact absurd (show false=true from fx) Bool.false_ne_true
 |bl a=>
  cases ry
  cases x with
  |non=>cases rx;exact SeqAt.EqAt.bool_none a
  |bl b=>cases rx;exact SeqAt.EqAt.bool_bool a b
  |int b=>obtain⟨t,rfl⟩:=rx;exact SeqAt.EqAt.bool_int a b t
  |str b=>obtain⟨t,rfl⟩:=rx;exact SeqAt.EqAt.bool_str a b t
  |_=>exact absurd (show false=true from fx) Bool.false_ne_true
 |int a=>
  obtain⟨t',rfl⟩:=ry
  cases x with
  |non=>cases rx;exact SeqAt.EqAt.int_none a t'
  |bl b=>cases rx;exact SeqAt.EqAt.int_bool a t' b
  |int b=>obtain⟨t,rfl⟩:=rx;exact SeqAt.EqAt.int_int a t' b t
  |str b=>obtain⟨t,rfl⟩:=rx;exact SeqAt.EqAt.int_str a t' b t
  |_=>exact absurd (show false=true from fx) Bool.false_ne_true
 |str a=>
  obtain⟨t',rfl⟩:=ry
  cases x with
  |non=>cases rx;exact SeqAt.EqAt.str_none a t'
  |bl b=>cases rx;exact SeqAt.EqAt.str_bool a t' b
  |int b=>obtain⟨t,rfl⟩:=rx;exact SeqAt.EqAt.str_int a t' b t
  |str b=>obtain⟨t,rfl⟩:=rx;exact SeqAt.EqAt.str_str a t' b t
  |_=>exact absurd (show false=true from fx) Bool.false_ne_true
 |_=>exact absurd (show false=true from fy) Bool.false_ne_true
def eqU(x:V)(u:Value):Bool:=match u with
 | .none=>eqV .non x
 | .bool b=>eqV (.bl b) x
 | .int i _=>eqV (.int i) x
 | .str z _=>eqV (.str z) x
 |_=>false
theorem eqU_of{x y:V}{u:Value}(r:RelV y u)(f:flatV y=true):eqU x u=eqV y x:=by
 cases y with
 |non=>cases r;rfl
 |bl b=>cases r;rfl
 |int i=>obtain⟨t,rfl⟩:=r;rfl
 |str z=>obtain⟨t,rfl⟩:=r;rfl
 |_=>exact absurd (show false=true from f) Bool.false_ne_true
theorem any_eqU{x:V}:∀{xs:List V}{us:List Value},Vals xs us->xs.all flatV=true->us.any (eqU x)=xs.any fun y=>eqV y x
 |_,_,.nil,_=>rfl
 |y::xs,u::us,.cons r t,f=>by
  rw[List.all_cons,Bool.and_eq_true]at f
  rw[List.any_cons,List.any_cons,eqU_of r f.1,any_eqU t f.2]
theorem mem_eqAt{A:Around}{s:Shared}{x:V}{v:Value}(rx:RelV x v)(fx:flatV x=true):∀{xs:List V}{us:List Value},Vals xs us->xs.all flatV=true->∀u∈us,SeqAt.EqAt A s u v (eqU x u)
 |_,_,.nil,_=>fun u hu=>by cases hu
 |y::xs,u::us,.cons r t,f=>fun u' hu=>by
  rw[List.all_cons,Bool.and_eq_true]at f
  rcases List.mem_cons.mp hu with rfl|hu
  ·rw[eqU_of r f.1];exact eqAt_V r rx f.1 fx
  ·exact mem_eqAt rx fx t f.2 u' hu
def inV(x:V)(xs:List V):Bool:=xs.any fun y=>eqV y x
def rIn(K:PySem.W.Frag)(neg:Bool):R2:=fun x y H Q=>∃p xs,y= .ref p/\(SqL K H p xs\/SqT K H p xs)/\flatV x=true/\xs.all flatV=true/\Q (.bl (if neg then !inV x xs else inV x xs)) H
theorem op_in_seq:OpR X (compareOp .In) (rIn X.K false):=by
 intro pins s σ H x y v u Q I rx ry h
 obtain⟨p,xs,rfl,hq,fx,fs,q⟩:=h
 cases ry
 rcases hq with hq|hq
 ·obtain⟨its,r,pl,hz⟩:=I.list hq
  refine SeqAt.in_listAt (eqU x) pl.isList (fun w hw=>mem_eqAt rx fx r fs w (by simpa using hw)) ⟨.bl _,H,I,rfl,?_⟩
  rw[show its.toArray.any (eqU x)=its.any (eqU x) by simp,any_eqU r fs]
  exact q
 ·obtain⟨its,r,pl,hz⟩:=I.tuple hq
  refine SeqAt.in_tupleAt (eqU x) pl (fun w hw=>mem_eqAt rx fx r fs w (by simpa using hw)) ⟨.bl _,H,I,rfl,?_⟩
  rw[show its.toArray.any (eqU x)=its.any (eqU x) by simp,any_eqU r fs]
  exact q
theorem call_len_seq:CallR X (.builtin "len") (fun xs H Q=>∃p ys,xs=[.ref p]/\(SqL X.K H p ys\/SqT X.K H p ys)/\Q (.int ys.length) H):=by
 intro pins s σ H xs us Q I r h
 obtain⟨p,ys,rfl,hq,q⟩:=h
 obtain⟨u,rfl,rx⟩:=vals1 r
 cases rx
 have hn:=line63
 rcases hq with hq|hq
 ·obtain⟨its,r',pl,hz⟩:=I.list hq
  have hlen:=r'.length
  exact Calls.call_len_list pl.isList (by simp only[List.size_toArray]<;>omega) ⟨.int ys.length,H,I.tok _,⟨s.toks+1,by rw[List.size_toArray,hlen]⟩,q⟩
 ·obtain⟨its,r',pl,hz⟩:=I.tuple hq
  have hlen:=r'.length
  exact len_tuple pl (by simp only[List.size_toArray]<;>omega) ⟨.int ys.length,H,I.tok _,⟨s.toks+1,by rw[List.size_toArray,hlen]⟩,q⟩
theorem call_tuple_of:CallR X (.type "tuple") (fun xs H Q=>∃p ys,xs=[.ref p]/\((SqL X.K H p ys/\∀l,H l=none->Q (.ref l) (upd H l (.tup ys)))\/(SqT X.K H p ys/\Q (.ref p) H))):=by
 intro pins s σ H xs us Q I r h
 obtain⟨p,ys,rfl,h⟩:=h
 obtain⟨u,rfl,rx⟩:=vals1 r
 cases rx
 rcases h with⟨hq,q⟩|⟨hq,q⟩
 ·obtain⟨its,r',pl,hz⟩:=I.list hq
  have hlen:=r'.length
  refine call_tuple_list pl.isList (fun h' kp=>?_) (by simp only[List.size_toArray]<;>omega)
  have I1:Inv X pins σ H {s with heap:=h'}:=I.kept (t':=s.toks) kp
  have I2:Inv X pins σ (upd H h'.objs.size (.tup ys)) {s with heap:=h'.push {cls:= .type "tuple",data:= .seq its.toArray}}:=
   I1.laid (t':=s.toks) (fun b o e=>Heap.get?_push_of_some _ e) (Nat.le_refl _) (show ObjOk X.prog X.w _ _ _ (.tup ys)from⟨hz,its,r',IsTup.new _ _⟩)
  exact⟨.ref h'.objs.size,_,I2,rfl,q _ (I1.hok.fresh (Nat.le_refl _))⟩
 ·obtain⟨its,r',pl,hz⟩:=I.tuple hq
  exact call_tuple_same pl ⟨.ref p,H,I,rfl,q⟩
def tyV(K:PySem.W.Frag)(T:String)(x:V)(H:Hp):Prop:=match x with
 | .str _=>T="str"
 | .int _=>T="int"
 | .ref p=>(T="list"/\∃xs,SqL K H p xs)\/(T="tuple"/\∃o,K.lookup p=some o/\o.cls= .type "tuple"/\o.dict=none)\/
   (T="dict"/\((∃kvs,H p=some (.dK kvs))\/∃kvs,H p=some (.dT kvs)))\/(T="set"/\∃S n,H p=some (.set S n))
 |_=>False
theorem tyV_is{pins:List (Addr×Obj)}{σ:St}{H:Hp}{s:Shared}{T:String}{x:V}{v:Value}(I:Inv X pins σ H s)(r:RelV x v)(ty:tyV X.K T x H):
  s.TypeIs v T/\∀a,v= .ref a->∃ob,s.heap.get? a=some ob/\ob.dict=none:=by
 cases x with
 |str z=>
  obtain⟨t,rfl⟩:=r
  cases(show T="str" from ty)
  exact⟨typeIs_str s z t,fun _ e=>nomatch e⟩
 |int i=>
  obtain⟨t,rfl⟩:=r
  cases(show T="int" from ty)
  exact⟨typeIs_int s i t,fun _ e=>nomatch e⟩
 |ref p=>
  cases r
  rcases ty with⟨rfl,xs,hq⟩|⟨rfl,o,hk,hc,hd⟩|⟨rfl,hk⟩|⟨rfl,S,n,hk⟩
  ·obtain⟨its,_,pl,_⟩:=I.list hq
   refine⟨pl.isList.typeIs,fun a e=>?_⟩
   cases e
   obtain⟨o,n,e,c,hd,_⟩:=pl
   exact⟨o,e,hd⟩
  ·refine⟨⟨o,I.kIn p o hk,hc⟩,fun a e=>?_⟩
   cases e
   exact⟨o,I.kIn _ o hk,hd⟩
  ·have z:∃o,s.heap.get? p=some o/\o.ExactDict:=by
    rcases hk with⟨kvs,hk⟩|⟨kvs,hk⟩
    ·obtain⟨_,_,_,_,o,_,_,e,ex,_⟩:=I.hok p _ hk
     exact⟨o,e,ex⟩
    ·obtain⟨_,_,_,_,o,_,_,e,ex,_⟩:=I.hok p _ hk
     exact⟨o,e,ex⟩
   obtain⟨o,e,ex⟩:=z
   refine⟨⟨o,e,ex.1⟩,fun a e2=>?_⟩
   cases e2
   exact⟨o,e,ex.2.1⟩
  ·obtain⟨o,_,_,_,e,ex,_⟩:=I.hok p _ hk
   refine⟨⟨o,e,ex.1⟩,fun a e2=>?_⟩
   cases e2
   exact⟨o,e,ex.2.1⟩
 |_=>exact False.elim ty
def tBM0(K:PySem.W.Frag)(T:String)(r:V->List V->Hp->VK->Prop)(to:TE):TE:=fun σ H Q=>to σ H fun x H1=>tyV K T x H1/\r x [] H1 Q
def tBM(K:PySem.W.Frag)(T:String)(r:V->List V->Hp->VK->Prop)(to:TE)(t:TA):TE:=fun σ H Q=>to σ H fun x H1=>tyV K T x H1/\t σ H1 fun xs H2=>r x xs H2 Q
variable{o e:Expr}{es:List Expr}{to:TE}{t:TA}{name:Str}{apos cpos:Pos}{T id:String}{r:V->List V->Hp->VK->Prop}
theorem pe_bm0(pa:PlainAttrs T)(slot:Slot T name id)(hty:typeOf (.builtin id)=pure (.type "method_descriptor"))(hm:MtR X id r)(ho:PE X o to)
  (hbase:attributeBase o name X.env (eval o X.env)=eval o X.env:=by rfl)(hline:(apos.endLine==cpos.line)=true:=by rfl):PE X (.Call (.Attribute o name apos) [] [] cpos) (tBM0 X.K T r to):=by
 intro pins s σ H Q I h
 refine wpAny_Call_method0_late hbase hline (thn (ho pins s σ H _ I h) fun v s1⟨x,H1,I1,r1,ty,q1⟩=>?_)
 obtain⟨h1,h2⟩:=tyV_is I1 r1 ty
 exact⟨T,id,pa,slot,hty,h1,h2,Calls.callWith_builtin rfl (PySem.evalArgs_none (hm pins s1 σ H1 x [] v [] Q I1 r1 .nil q1))⟩
theorem pe_bm(pa:PlainAttrs T)(slot:Slot T name id)(hty:typeOf (.builtin id)=pure (.type "method_descriptor"))(hm:MtR X id r)(ho:PE X o to)(ha:PA X (e::es) t)
  (hbase:attributeBase o name X.env (eval o X.env)=eval o X.env:=by rfl)
  (hfew:((backTo cpos (starEach (e::es) X.env)).all (fun x=> !x.1)&&(backToKw cpos (keywordEach [] X.env)).all (fun x=>x.1.isSome)
   &&decide ((e::es).length+([]:List Keyword).length+(if([]:List Keyword).isEmpty then 0 else 1)<30))=true:=by rfl)
  (hline:(apos.endLine==cpos.line)=true:=by rfl) (hs:starEach (e::es) X.env=(false,eval e X.env)::starEach es X.env:=by rfl) (hplain:(backTo cpos (starEach es X.env)).any (·.1)=false:=by rfl):
  PE X (.Call (.Attribute o name apos) (e::es) [] cpos) (tBM X.K T r to t):=by
 intro pins s σ H Q I h
 refine wpAny_Call_method_late hbase hfew hline rfl (thn (ho pins s σ H _ I h) fun v s1⟨x,H1,I1,r1,ty,q1⟩=>?_)
 obtain⟨h1,h2⟩:=tyV_is I1 r1 ty
 refine⟨T,id,pa,slot,hty,h1,h2,?_⟩
 have hA:=ha cpos pins s1 σ H1 _ I1 q1
 rw[hs]at hA⊢
 refine Calls.callWith_builtin (by show(false||(backTo cpos (starEach es X.env)).any (·.1))=false;rw[hplain]<;>rfl) (Calls.evalArgs_plain ?_)
 exact thn hA fun us s2⟨vs,H2,I2,r2,q2⟩=>hm pins s2 σ H2 x vs v us Q I2 r1 r2 q2
end
def MtM(X:Cx)(id:String)(r:V->List V->Hp->VK->Prop):Prop:=
 ∀(pins:List (Addr×Obj))(s:Shared)(σ:St)(H:Hp)(x:V)(xs:List V)(v:Value)(us:List Value)(Q:VK),Inv X pins σ H s->RelV x v->Vals xs us->r x xs H Q->
  wpAny (model X.prog X.w) X.A (call (.builtin id) (v::us)) (EP X pins σ Q) X.xe s
theorem Vals.one:∀{x:V}{us:List Value},Vals [x] us->∃u,us=[u]/\RelV x u
 |_,_,.cons r .nil=>⟨_,rfl,r⟩
theorem Vals.zero:∀{us:List Value},Vals [] us->us=[]
 |_,.nil=>rfl
theorem Vals.dropLast{xs:List V}{us:List Value}(h:Vals xs us):Vals xs.dropLast us.dropLast:=by
 induction h with
 |nil=>exact .nil
 |cons r t ih=>
  cases t with
  |nil=>exact .nil
  |cons q t'=>exact .cons r ih
theorem Vals.rep{xs:List V}{us:List Value}(h:Vals xs us):∀k:Nat,Vals (List.replicate k xs).flatten (List.replicate k us).flatten
 |0=> .nil
 |k+1=>by
  rw[List.replicate_succ,List.replicate_succ,List.flatten_cons,List.flatten_cons]
  exact Vals.append h (Vals.rep h k)
theorem erase_last{α:Type}(l:List α):l.eraseIdx (l.length-1)=l.dropLast:=by
 induction l with
 |nil=>rfl
 |cons a r ih=>
  cases r with
  |nil=>rfl
  |cons b r=>
   have e:(a::b::r).length-1=((b::r).length-1)+1:=by
    have h1:(a::b::r).length=r.length+2:=rfl
    have h2:(b::r).length=r.length+1:=rfl
    omega
   rw[e,List.eraseIdx_cons_succ,ih]
   all_goals rfl
theorem foldl_rep(its:List Value):∀(k:Nat)(acc:List Value),
  List.foldl (fun x1 x2=>x1++x2) acc.toArray (List.replicate k its.toArray)=(acc++(List.replicate k its).flatten).toArray
 |0,acc=>by simp
 |k+1,acc=>by
  have e:acc.toArray++its.toArray=(acc++its).toArray:=by simp
  have e2:(acc++its)++(List.replicate k its).flatten=acc++(List.replicate (k+1) its).flatten:=by
   rw[List.replicate_succ,List.flatten_cons,List.append_assoc]
  rw[<-e2,<-foldl_rep its k (acc++its),<-e,List.replicate_succ,List.foldl_cons]
section
variable{X:Cx}{pins:List (Addr×Obj)}{σ:St}{H:Hp}{s:Shared}{l b:Addr}{xs ys zs:List V}
theorem Inv.lset{its its':List Value}{n:Nat}{f:Array Value->Array Value}{t':Nat}(I:Inv X pins σ H s)(hH:H l=some (.lst xs))
  (e:s.heap.get? l=some {cls:= .type "list",data:= .seq its.toArray n})(hf:f its.toArray=its'.toArray)(hv:Vals ys its')(hz:ys.length<=sizeLine):
  Inv X pins σ (upd H l (.lst ys)) {s with heap:=s.heap.update l (Obj.mapSeq f),toks:=t'}:=by
 have q:=PySem.IsL.update e f
 rw[hf]at q
 refine I.write (x:=l) (e:=l) (by rw[hH];exact trivial) (.inl rfl) (fun b' u hb hu=>(Heap.get?_update_other s.heap (Obj.mapSeq f) (Ne.symm hb)).trans hu) ⟨_,q⟩ ?_
 exact⟨hz,its',_,hv,q⟩
theorem Inv.lnew{its:List Value}{t':Nat}(I:Inv X pins σ H s)(hv:Vals ys its)(hz:ys.length<=sizeLine):
  Inv X pins σ (upd H s.heap.objs.size (.lst ys)) {s with heap:=s.heap.push {cls:= .type "list",data:= .seq its.toArray},toks:=t'}:=
 I.laid (fun _ _ q=>Heap.get?_push_of_some _ q) (Nat.le_refl _) ⟨hz,its,0,hv,Heap.get?_push_size _ rfl⟩
theorem Inv.fresh(I:Inv X pins σ H s):H s.heap.objs.size=none:=I.hok.fresh (Nat.le_refl _)
theorem Inv.lstM(I:Inv X pins σ H s)(hH:H l=some (.lst xs)):xs.length<=sizeLine/\∃(its:List Value)(n:Nat),Vals xs its/\xs.length=its.length/\s.heap.get? l=some {cls:= .type "list",data:= .seq its.toArray n}:=by
 obtain⟨z,its,n,r,e⟩:=I.hok l _ hH
 exact⟨z,its,n,r,r.length,e⟩
theorem notLongL{n:Nat}(h:n<=sizeLine):Builtin.List.listTooLong n=false:=by
 unfold Builtin.List.listTooLong
 exact decide_eq_false (by omega)
end
section
variable{X:Cx}
def rAppend:V->List V->Hp->VK->Prop:=fun x vs H Q=>∃l xs y,x= .ref l/\vs=[y]/\H l=some (.lst xs)/\xs.length<sizeLine/\Q .non (upd H l (.lst (xs++[y])))
theorem mt_append:MtM X "list.append" rAppend:=by
 intro pins s σ H x vs v us Q I rx rv h
 obtain⟨l,xs,y,rfl,rfl,hH,hz,q⟩:=h
 cases rx
 obtain⟨u,rfl,ru⟩:=rv.one
 obtain⟨z,its,n,r,hl,e⟩:=I.lstM hH
 refine call_meets F.slot_list_append ⟨_,e,rfl⟩ F.entry_list_append (F.args_list_append_2 _ _) (PySem.list_append l its.toArray n u (by rw[List.size_toArray];omega)) ⟨e,?_⟩
 refine⟨.non,_,I.lset (its':=its++[u]) hH e (by simp) (r.append (.cons ru .nil)) ?_,rfl,q⟩
 rw[List.length_append,List.length_singleton]
 omega
def rExtend:V->List V->Hp->VK->Prop:=fun x vs H Q=>∃l b xs zs,x= .ref l/\vs=[.ref b]/\H l=some (.lst xs)/\H b=some (.lst zs)/\xs.length+zs.length<=sizeLine/\Q .non (upd H l (.lst (xs++zs)))
theorem mt_extend:MtM X "list.extend" rExtend:=by
 intro pins s σ H x vs v us Q I rx rv h
 obtain⟨l,b,xs,zs,rfl,rfl,hH,hB,hz,q⟩:=h
 cases rx
 obtain⟨u,rfl,ru⟩:=rv.one
 cases ru
 obtain⟨z,its,n,r,hl,e⟩:=I.lstM hH
 obtain⟨z2,its2,n2,r2,hl2,e2⟩:=I.lstM hB
 have hsz:its.toArray.size+its2.toArray.size<=sizeLine:=by rw[List.size_toArray,List.size_toArray];omega
 have hlong:¬(!its.toArray.isEmpty&&Builtin.List.listTooLong (its.toArray.size+its2.toArray.size))=true:=by
  rw[notLongL hsz,Bool.and_false]
  exact Bool.false_ne_true
 refine call_meets F.slot_list_extend ⟨_,e,rfl⟩ F.entry_list_extend (F.args_list_extend_2 _ _)
  (AutoSeq1.list_extend_list_list_0 l its.toArray n b its2.toArray n2 hlong (by rw[List.size_toArray];omega) (by omega)) ⟨e,e2,?_⟩
 refine⟨.non,_,I.lset (its':=its++its2) hH e (by simp) (r.append r2) ?_,rfl,q⟩
 rw[List.length_append]
 omega
def rPop:V->List V->Hp->VK->Prop:=fun x vs H Q=>∃l xs y,x= .ref l/\vs=[]/\H l=some (.lst xs)/\xs[xs.length-1]?=some y/\Q y (upd H l (.lst xs.dropLast))
theorem mt_pop:MtM X "list.pop" rPop:=by
 intro pins s σ H x vs v us Q I rx rv h
 obtain⟨l,xs,y,rfl,rfl,hH,hy,q⟩:=h
 cases rx
 have hus:=rv.zero
 subst hus
 obtain⟨z,its,n,r,hl,e⟩:=I.lstM hH
 obtain⟨u,hu,ru⟩:=r.get hy
 have hy':its.toArray[its.toArray.size-1]?=some u:=by
  show its.toArray[its.length-1]?=some u
  rw[<-Array.getElem?_toList,<-hl]
  exact hu
 refine call_meets F.slot_list_pop ⟨_,e,rfl⟩ F.entry_list_pop (F.args_list_pop_1 _) (MeetsSeq.list_pop_last l its.toArray n u hy' (by rw[List.size_toArray];omega)) ⟨e,?_⟩
 refine⟨y,_,I.lset (its':=its.dropLast) hH e ?_ r.dropLast ?_,ru,q⟩
 ·show its.toArray.eraseIdxIfInBounds (its.toArray.size-1)=its.dropLast.toArray
  rw[List.size_toArray,List.eraseIdxIfInBounds_toArray,erase_last]
 ·rw[List.length_dropLast]
  omega
def rCat:R2:=fun x y H Q=>∃l b xs zs,x= .ref l/\y= .ref b/\H l=some (.lst xs)/\H b=some (.lst zs)/\xs.length+zs.length<=sizeLine/\∀p,H p=none->Q (.ref p) (upd H p (.lst (xs++zs)))
theorem op_cat:OpR X (binaryOp .Add) rCat:=by
 intro pins s σ H x y v u Q I rx ry h
 obtain⟨l,b,xs,zs,rfl,rfl,hH,hB,hz,q⟩:=h
 cases rx
 cases ry
 obtain⟨z,its,n,r,hl,e⟩:=I.lstM hH
 obtain⟨z2,its2,n2,r2,hl2,e2⟩:=I.lstM hB
 refine PySem.P.add_list e e2 ?_ (by rw[List.size_toArray,List.size_toArray];omega)
 have ea:its.toArray++its2.toArray=(its++its2).toArray:=by simp
 rw[ea]
 exact⟨.ref _,_,I.lnew (t':=s.toks) (r.append r2) (by rw[List.length_append];omega),rfl,q _ I.fresh⟩
def rRep:R2:=fun x y H Q=>∃l k xs,x= .ref l/\y= .int k/\H l=some (.lst xs)/\ -(2^63)<=k/\k<2^63/\xs.length*k.toNat<=sizeLine/\
 ∀p,H p=none->Q (.ref p) (upd H p (.lst (List.replicate k.toNat xs).flatten))
theorem len_rep{α:Type}(xs:List α)(k:Nat):(List.replicate k xs).flatten.length=k*xs.length:=by
 induction k with
 |zero=>simp
 |succ k ih=>rw[List.replicate_succ,List.flatten_cons,List.length_append,ih,Nat.succ_mul,Nat.add_comm]
theorem op_rep:OpR X (binaryOp .Mult) rRep:=by
 intro pins s σ H x y v u Q I rx ry h
 obtain⟨l,k,xs,rfl,rfl,hH,h1,h2,hz,q⟩:=h
 cases rx
 obtain⟨t,rfl⟩:=ry
 obtain⟨z,its,n,r,hl,e⟩:=I.lstM hH
 have hlen:its.toArray.size*k.toNat<=sizeLine:=by rw[List.size_toArray,<-hl];exact hz
 have hcap:¬its.toArray.size*k.toNat>(2^63-1)/8:=by
  have:(sizeLine:Nat)<=(2^63-1)/8:=by decide
  omega
 have hfit:¬(!Builtin.List.listFitsIndex k)=true:=by
  rw[fitsIndex_both h1 h2]
  exact Bool.false_ne_true
 have hlong:¬Builtin.List.listTooLong (its.toArray.size*k.toNat)=true:=by
  rw[notLongL hlen]
  exact Bool.false_ne_true
 have hnew:List.foldl (fun x1 x2=>x1++x2) #[] (List.replicate (if its.toArray.isEmpty=true then 0 else k.toNat) its.toArray)=(List.replicate k.toNat its).flatten.toArray:=by
  have f0:∀m:Nat,List.foldl (fun x1 x2=>x1++x2) #[] (List.replicate m its.toArray)=(List.replicate m its).flatten.toArray:=fun m=>by
   have:=foldl_rep its m []
   rw[List.nil_append]at this
   exact this
  rw[f0]
  cases its with
  |nil=>simp
  |cons a r'=>rw[if_neg (by simp)]
 refine wpAny_binaryOp_repeat_ref (T:="list") (U:="int") (by decide) ⟨_,e,rfl⟩ (fun s'=>typeIs_int s' k t) noFill_list_mul F.fills_int_mul F.slot_int_rmul repeat_list F.slot_int_index.lookup
  (call_meets F.slot_int_rmul (typeIs_int s k t) F.entry_int_rmul (F.args_int_rmul_2 _ _) (int___rmul___int_list k t l its.toArray n)
   ⟨e,rfl,⟨_,e,rfl⟩,call_meets F.slot_list_mul ⟨_,e,rfl⟩ F.entry_list_mul (F.args_list_mul_2 _ _) (AutoListH.list___mul___list_int_3 l its.toArray n k t hfit hcap hlong) ⟨e,?_⟩⟩)
 rw[hnew]
 exact⟨.ref _,_,I.lnew (t':=s.toks) (r.rep k.toNat) (by rw[len_rep,Nat.mul_comm];exact hz),rfl,q _ I.fresh⟩
end
end L2
namespace Att
open PySem PySem.W PySem.Calls PyProof.Rows
theorem ints_of_wellAll{P:Params}{h:Heap}:∀(ns:List Int)(vs:List Value),WellAll P h vs (ns.map WData.int)->IntsAre vs ns:=by
 intro ns
 induction ns with
 |nil=>
  intro vs w
  rw[List.map_nil]at w
  cases w
  exact .nil
 |cons n ns ih=>
  intro vs w
  rw[List.map_cons]at w
  cases w with
  |cons a b=>
   cases a
   exact .cons _ _ (ih _ b)
theorem script_of{l:OpenLaw}{n:Nat}(hn:l.most=some n){P:Params}{h:Heap}{args:List WData}{vals:List Value}
  (hpre:l.row.toRowW.claim.pre args=true)(hwl:WellAll P h vals args):
  ∃a vs ns,vals=[Value.ref a]/\args=[WData.list (ns.map WData.int)]/\h.get? a=some {cls:= .type "list",data:= .seq vs.toArray}/\IntsAre vs ns/\ns.length<=n:=by
 have hsh:WShape.hasAll [] args [.list .int]=true:=(pre_splitW hpre).1
 have hc:l.pre.holds [] {args:=args}=true:=(pre_splitW hpre).2
 obtain⟨d,r,rfl,h1,h2⟩:=hasAllW_cons hsh
 obtain rfl:=hasAllW_nil h2
 obtain⟨xs,rfl,h3⟩:=hasW_list h1
 obtain⟨ns,rfl⟩:=items_int h3
 have hlen:ns.length<=n:=by
  unfold OpenLaw.pre at hc
  have h4:(WTm.not (.lt (.lit (.int (n:Int))) (.len (.arg 0)))).holds [] {args:=[.list (ns.map .int)]}=true:=by
   have h4:=(holds_andW hc).1
   rw[hn]at h4
   exact h4
  have h5:=condW_of h4 (w_not (w_lt w_lit (w_len_list (w_arg rfl))))
  rw[List.length_map]at h5
  refine Nat.le_of_not_lt fun q=>?_
  have q':(n:Int)<((ns.length:Nat):Int):=by omega
  first
   |(rw[decide_eq_true q']at h5;exact absurd h5 (by decide))
   |(simp at h5;omega)
 cases hwl with
 |cons w1 w2=>
  cases w2
  cases w1 with
  |list ho hall=>exact⟨_,_,ns,rfl,rfl,ho,ints_of_wellAll ns _ hall,hlen⟩
theorem post_true(l:OpenLaw)(args:List WData):l.row.toRowW.claim.post args (.bool true) args=true:=
 postW_of (r:=l.row.toRowW) (X:=(true==true))
  (show WShape.has [] (.bool true) .bool=true by first|rfl|decide|simp[WShape.has,WShape.arms,WShape.armsAll])
  (show(WTm.eq .res (.lit (.bool true))).value [] {args:=args,res:=some (.bool true),after:=args}=some (.bool (true==true))from w_eq_bool (w_res rfl) w_lit) rfl
theorem attach_call{l:OpenLaw}{n:Nat}{q:Program}{loose:List Str}{XP:(Str->Option Value)->Heap->Prop}{YP:World->Heap->Prop}{d:DefRec}
  (hn:l.most=some n)(hdf:d.params.defaults=[])
  (call:∀(w:World)(s₀ s₁:Shared)(mg mb:Str->Option Value)(fa:Addr)(o:Obj)(pm cd doc:Value)(a:Addr)(vs:List Value)(ns:List Int),
   Ground q loose [] XP w s₀ mg mb s₁.heap->YP w s₁.heap->
   s₁.heap.get? fa=some o->o.data= .func (docDef d.name d.params d.body d.scope pm cd doc)->s₁.heap.CodeRec cd d.name->mg d.name=some (.ref fa)->
   s₁.heap.get? a=some {cls:= .type "list",data:= .seq vs.toArray}->IntsAre vs ns->ns.length<=n->s₁.gens=#[]->
   codeAny (model l.prog w) callerA (.call (.ref fa) ⟨[.ref a],[]⟩) (fun r s'=>r= .ok (.ret (.bool true))/\OldK s₁.heap s'.heap/\s'.os=s₁.os/\AllBare s'.gens) s₁):
  WalkO q loose XP YP l.row.toRowW d [] (fun f vs=>PySem.call f vs):=by
 intro w s₀ s₁ mg mb G Y fa o pm cd doc dV kV ho hd hcd hD hmg hg args vals as hpre hlay hrd hwl hlo
 obtain rfl:dV= .none:=Dflts.none hD hdf
 obtain rfl:kV= .none:=Dflts.noKw hD
 obtain⟨a,vs,ns,rfl,rfl,hobj,hints,hlen⟩:=script_of hn hpre hwl
 refine enter_call (codeAny_mono (call w s₀ s₁ mg mb fa o pm cd doc a vs ns G Y ho (fd_plain hd) hcd hmg hobj hints hlen hg) fun r s' hq=>?_)
 obtain⟨rfl,h2,h3,h4⟩:=hq
 exact⟨.inl ⟨.bool true,.bool true,[],rfl,fun _=>rfl,.bool true,post_true l _,fun _=>⟨List.Pairwise.nil,fun _ hm=>(nomatch hm)⟩⟩,h2,h3,h4⟩
end Att
namespace L2
open PySem PySem.Spec PyProof.Rows
theorem vals_ints:∀{vs:List Value}{ns:List Int},IntsAre vs ns->Vals (ns.map V.int) vs
 |_,_,.nil=> .nil
 |_,_,.cons n t h=> .cons ⟨t,rfl⟩ (vals_ints h)
def Only(H:Hp):Prop:=∀b,H b=none\/∃o xs,H b=some (.frz o (.lst xs))
theorem law_call{P:Program}{w:World}{K:PySem.W.Frag}{mg mb:Str->Option Value}{CX:CXT}{k:Nat}{fa a:Addr}{fd:FuncData}{x:Str}{sp:Sp}{s₁:Shared}{vs:List Value}{ns:List Int}
  (KX:K.In s₁.heap)(hns:s₁.heap.Ns mainGlobals mg)(hb:s₁.heap.Ns builtinsNs mb)(hbb:∀x:Str,x≠"__name__"->mb x=bootBuiltins x) (hlim:s₁.heap.NoLimit) (hg:s₁.gens=#[])
  (ha:s₁.heap.get? a=some {cls:= .type "list",data:= .seq vs.toArray}) (hi:IntsAre vs ns) (hl:ns.length<=sizeLine) (hr:Room k callerA)
  (F:∀base:Heap,K.In base->base.Ns mainGlobals mg->FnOk P w K mg base CX k fa fd [x] sp) (hbind:∀(s:Shared)(u:Value),BindsTo s fd ⟨[u],[]⟩ [(x,u)])
  (hsp:∀H:Hp,Only H->SqL K H a (ns.map V.int)->sp [.ref a] H (fun v _=>v= .bl true) fun _ _ _=>False)
  (hCX:∀H e s',CX [] H s₁ (fun _ _ _=>False) e s'->False):
  codeAny (model P w) callerA (.call (.ref fa) ⟨[.ref a],[]⟩) (fun r s'=>r= .ok (.ret (.bool true))/\OldK s₁.heap s'.heap/\s'.os=s₁.os/\AllBare s'.gens) s₁:=by
 have rv:=vals_ints hi
 have lenV:=hi.length
 have core:∀H:Hp,Only H->SqL K H a (ns.map V.int)->HOk P w H s₁.heap->(∀b,H b≠none->b=a)->(H a≠none->K.lookup a=none)->
   codeAny (model P w) callerA (.call (.ref fa) ⟨[.ref a],[]⟩) (fun r s'=>r= .ok (.ret (.bool true))/\OldK s₁.heap s'.heap/\s'.os=s₁.os/\AllBare s'.gens) s₁:=by
  intro H hO hS hok hA hK
  have base_of:∀{b:Addr}{o:Obj},s₁.heap.get? b=some o->H b=none->(hidT s₁.heap H).get? b=some o:=fun e n=>hidT_get e n
  have noA:∀{b:Addr}{o:Obj}{es:Array DictEntry}{ep:Nat},s₁.heap.get? b=some o->o.data= .dict es ep->H b=none:=fun{b o es ep} e d=>by
   cases q:H b with
   |none=>rfl
   |some u=>
    have e':b=a:=hA b (by rw[q];simp)
    subst e'
    rw[ha]at e;cases e
    have d':Data.seq vs.toArray _=Data.dict es ep:=d
    cases d'
  have nsK:∀{b:Addr}{m:Str->Option Value},s₁.heap.Ns b m->(hidT s₁.heap H).Ns b m:=fun{b m}⟨o,es,ep,e,d,r⟩=>⟨o,es,ep,base_of e (noA e d),d,r⟩
  have hKb:K.In (hidT s₁.heap H):=fun b o e=>base_of (KX b o e) (by
   cases q:H b with
   |none=>rfl
   |some u=>
    have e':b=a:=hA b (by rw[q];simp)
    subst e'
    rw[hK (by rw[q];simp)]at e;cases e)
  have hM:Mod K mg (hidT s₁.heap H):=⟨hKb,nsK hns,⟨mb,nsK hb,hbb⟩,let⟨mc,h1,h2⟩:=hlim;⟨mc,nsK h1,h2⟩⟩
  have e0:Env0 P w K mg (hidT s₁.heap H) callerA [] s₁ H:=⟨rfl,hM,fun b o e=>of_hidT e,Nat.le_of_eq (hidT_size _ _),trivial,fun b hb=>absurd (show b∈([]:List Addr)from hb) (by simp),hok,.of_eq hg⟩
  refine codeAny_mono ((F _ hKb (nsK hns)).run callerA [] s₁ H ⟨[.ref a],[]⟩ [.ref a] [.ref a] _ _ hr e0 (hbind s₁ (.ref a)) (.cons rfl .nil) (hsp H hO hS)) fun r s' h=>?_
  cases r with
  |error e=>exact(hCX H e s' h).elim
  |ok fl=>
   cases fl with
   |next=>exact False.elim h
   |brk=>exact False.elim h
   |cont=>exact False.elim h
   |ret u=>
    obtain⟨v,H',os,bare,un,hok',r',q⟩:=h
    have q':v= .bl true:=q
    subst q'
    obtain rfl:u=Value.bool true:=r'
    refine⟨rfl,OldK.of_keep fun b o e=>?_,os,bare⟩
    cases q:H b with
    |none=>exact un.keep b o e q (by intro z;exact absurd (show b∈([]:List Addr)from z) (by simp)) (by simp)
    |some u=>
     rcases hO b with z|⟨ob,xs,z⟩
     ·rw[q]at z;cases z
     ·have z2:=un.frzs b ob _ z
      obtain⟨e1,_⟩:=hok b _ z
      obtain⟨e2,_⟩:=hok' b _ z2
      rw[e]at e1;cases e1
      exact e2
 cases hk:K.lookup a with
 |some o=>
  have e:=KX a o hk
  rw[ha]at e
  cases e
  refine core (fun _=>none) (fun _=> .inl rfl) (.inr ⟨_,vs.toArray,_,hk,rfl,rfl,rfl,by rw[List.size_toArray,lenV];exact hl,by simpa using rv⟩) (fun b u z=>by have z':(none:Option HO)=some u:=z;cases z') (fun b z=>absurd rfl z) fun z=>absurd rfl z
 |none=>
  refine core (fun b=>if b=a then some (.frz {cls:= .type "list",data:= .seq vs.toArray} (.lst (ns.map V.int)))else none) (fun b=>?_) (.inl (.inr ⟨{cls:= .type "list",data:= .seq vs.toArray},if_pos rfl⟩)) (fun b u z=>?_) (fun b z=>?_) fun _=>hk
  ·by_cases hb:b=a
   ·exact .inr ⟨_,_,if_pos hb⟩
   ·exact .inl (if_neg hb)
  ·by_cases hb:b=a
   ·have z':=(if_pos hb).symm.trans z
    cases z'
    subst hb
    exact⟨ha,by rw[List.length_map];exact hl,vs,_,rv,ha⟩
   ·have z':=(if_neg hb).symm.trans z
    cases z'
  ·by_cases hb:b=a
   ·exact hb
   ·exact absurd (if_neg hb) z
theorem walk_of{l:PySem.W.OpenLaw}{n k:Nat}{q:Program}{loose:List Str}{XP:(Str->Option Value)->Heap->Prop}{YP:World->Heap->Prop}{d:DefRec}{K:Params->PySem.W.Frag}{CX:World->CXT}{sp:World->Sp}{x:Str}
  (hn:l.most=some n)(hn2:n<=sizeLine)(hdf:d.params.defaults=[])(hr:Room k callerA)
  (hY:∀(w:World)(h:Heap),YP w h->(K w.params).In h)
  (F:∀(w:World)(mg:Str->Option Value)(fa:Addr)(h:Heap),(K w.params).In h->h.Ns mainGlobals mg->mg d.name=some (.ref fa)->
   ∃fd:FuncData,(∀(s:Shared)(u:Value),BindsTo s fd ⟨[u],[]⟩ [(x,u)])/\
    ∀base:Heap,(K w.params).In base->base.Ns mainGlobals mg->FnOk l.prog w (K w.params) mg base (CX w) k fa fd [x] (sp w))
  (hsp:∀(w:World)(H:Hp)(a:Addr)(ns:List Int),ns.length<=n->Only H->SqL (K w.params) H a (ns.map V.int)->sp w [.ref a] H (fun v _=>v= .bl true) fun _ _ _=>False)
  (hCX:∀(w:World)(H:Hp)(s:Shared)(e:Value)(s':Shared),CX w [] H s (fun _ _ _=>False) e s'->False):
  PySem.W.WalkO q loose XP YP l.row.toRowW d [] (fun f vs=>PySem.call f vs):=by
 refine Att.attach_call hn hdf fun w s₀ s₁ mg mb fa o pm cd doc a vs ns G Y ho hd hcd hmg hobj hints hlen hg=>?_
 have KX:=hY w _ Y
 obtain⟨fd,hb,hF⟩:=F w mg fa _ KX G.T.g hmg
 exact law_call KX G.T.g G.T.b G.T.builtins G.T.nolimit hg hobj hints (Nat.le_trans hlen hn2) hr hF hb (fun H hO hS=>hsp w H a ns hlen hO hS) fun H e s'=>hCX w H s₁ e s'
def inClass(s:Stmt)(j:Nat):Stmt:=match s with
 | .ClassDef _ _ _ body _ _ _ _ _ _ _=>body.getD j (.Pass ⟨0,0,0,0⟩)
 |_=> .Pass ⟨0,0,0,0⟩
def defArgs(s:Stmt):Arguments:=match s with
 | .FunctionDef _ a _ _ _ _ _ _ _ _=>a
 |_=>{posonlyargs:=[],args:=[],vararg:=none,kwonlyargs:=[],kw_defaults:=[],kwarg:=none,defaults:=[]}
def defBody(s:Stmt):List Stmt:=match s with
 | .FunctionDef _ _ b _ _ _ _ _ _ _=>b
 |_=>[]
def defScope(s:Stmt):Scope:=match s with
 | .FunctionDef _ _ _ _ _ _ sc _ _ _=>sc
 |_=>{kind:= .function,names:=[],isGenerator:=false,isCoroutine:=false}
abbrev CX0:CXT:=fun _ _ _ _ _ _=>False
abbrev E0:XK:=fun _ _ _=>False
theorem pass0{X:Cx}:Passes CX0 X E0:=fun _ _ _ _ _ _ _ h=>h.elim
structure Fun(K:PySem.W.Frag)(x qual:Str)(st:Stmt)(f:Addr)(fd:FuncData):Prop where
 ex:∃(oc:Value)(od:Option Addr)(kV doc pm:Value)(an:Option Addr)(cdv ct:Value)(osl:Array (Option Value)),
  fd=PySem.W.fnOf x qual (defArgs st) (defBody st) (defScope st) .none kV doc pm an cdv ct/\K.lookup f=some ⟨oc,od,.func fd,osl⟩/\PySem.W.codeIn K cdv qual=true
 kp:PySem.W.keepIn K (.ref f)=true
section
variable{P:Program}{w:World}{K:PySem.W.Frag}{mg:Str->Option Value}{base:Heap}
theorem Fun.ok{x qual:Str}{st:Stmt}{f:Addr}{fd:FuncData}{N ps:List Str}{k:Nat}{sp:Sp}(F:Fun K x qual st f fd)(S:FnScope N ps (defScope st))(len:∀vs H Q E,sp vs H Q E->vs.length=ps.length)
  (hbody:∀(cdv:Value)(A:Around)(outer:List Env)(s:Shared)(H:Hp)(vs:List V)(Q:VK)(E:XK),Room k (A.deeper (envOfC qual (defScope st) s.heap.objs.size f cdv))->sp vs H Q E->
   ∃t,PSs (cxOf CX0 P w K mg base N qual (defScope st) f cdv A outer s H E).nox (defBody st) t/\t {nx:=fun _ H'=>Q .non H',rt:=Q} (start N vs) H):FnOk P w K mg base CX0 (k+1) f fd ps sp:=by
 obtain⟨oc,od,kV,doc,pm,an,cdv,ct,osl,rfl,lk,hcd⟩:=F.ex
 refine fn_of lk hcd S len fun A outer s H vs Q E hr hsp=>?_
 obtain⟨t,h,q⟩:=hbody cdv A outer s H vs Q E hr hsp
 exact⟨t,h.nox,q⟩
theorem Fun.binds{x qual:Str}{st:Stmt}{f:Addr}{fd:FuncData}{ps:List Str}(F:Fun K x qual st f fd)
  (h:∀(kV doc pm:Value)(an:Option Addr)(cdv ct:Value)(us:List Value),us.length=ps.length->bindArgs (PySem.W.fnOf x qual (defArgs st) (defBody st) (defScope st) .none kV doc pm an cdv ct) ⟨us,[]⟩=pure (ps.zip us)):Binds K fd ps []:=by
 obtain⟨oc,od,kV,doc,pm,an,cdv,ct,osl,rfl,lk,hcd⟩:=F.ex
 exact .all (h kV doc pm an cdv ct)
theorem fun_mk{x qual:Str}{st:Stmt}{f:Addr}{oc:Value}{od an:Option Addr}{osl:Array (Option Value)}{kV doc pm cdv ct:Value}(l:K.lookup f=some ⟨oc,od,.func (PySem.W.fnOf x qual (defArgs st) (defBody st) (defScope st) .none kV doc pm an cdv ct),osl⟩)
  (c:PySem.W.codeIn K cdv qual=true)(k:PySem.W.keepIn K (.ref f)=true):Fun K x qual st f (PySem.W.fnOf x qual (defArgs st) (defBody st) (defScope st) .none kV doc pm an cdv ct):=⟨⟨oc,od,kV,doc,pm,an,cdv,ct,osl,rfl,l,c⟩,k⟩
end
theorem hu_of{A:Around}{k:Nat}(hr:Room k A):A.units+1<cLine:=Nat.lt_of_le_of_lt (Nat.add_le_add_left (by decide:1<=64) _) hr.units
section
variable{X:Cx}
theorem pv(i:Nat){x:Str}{pos:Pos}(hN:X.N[i]?=some x:=by rfl)(hv:Vis X.env.scope x:=by first|exact Or.inl rfl|exact Or.inr (Or.inl rfl)|exact Or.inr (Or.inr rfl))(hd:(x==("__debug__":Str))=false:=by decide)
  (hcd:(x==("__classdict__":Str))=false:=by decide):PE X (.Name x pos) (tVar i):=pe_var hN hv hd hcd
end
theorem iteF{A B:Prop}(h:B):if false=true then A else B:=by
 rw[if_neg Bool.false_ne_true]
 exact h
theorem iteT{A B:Prop}(h:A):if true=true then A else B:=by
 rw[if_pos rfl]
 exact h
theorem ite2{c A B:Prop}[Decidable c](h1:c->A)(h2:¬c->B):if c then A else B:=by
 by_cases h:c
 ·rw[if_pos h]
  exact h1 h
 ·rw[if_neg h]
  exact h2 h
def Same(H H':Hp):Prop:=∀b o,H b=some o->H' b=some o
theorem Same.refl(H:Hp):Same H H:=fun _ _ h=>h
theorem Same.trans{H H1 H2:Hp}(a:Same H H1)(b:Same H1 H2):Same H H2:=fun c o h=>b c o (a c o h)
theorem Same.free{H H':Hp}(e:Same H H'){l:Addr}(h:H' l=Option.none):H l=Option.none:=by
 cases q:H l with
 |none=>rfl
 |some o=>
  rw[e l o q]at h
  cases h
theorem Same.seq{K:PySem.W.Frag}{H H':Hp}{a:Addr}{xs:List V}(e:Same H H')(h:SqL K H a xs):SqL K H' a xs:=by
 rcases h with(h|⟨o,h⟩)|h
 ·exact .inl (.inl (e _ _ h))
 ·exact .inl (.inr ⟨o,e _ _ h⟩)
 ·exact .inr h
def cxBlk(X:Cx)(scope:Scope)(cl:List (Str×Addr))(C:Addr)(N:List Str)(fp:List Addr)(s:Shared)(H:Hp):Cx:=
 {X with N:=N,s₀:=s,H₀:=H,env:=compEnvC scope cl C X.env,outer:=X.stack,ex:=fp,fn:=fun _=>false,pn:=[],xe:=fun _ _=>False}
def PTs(X:Cx)(ifs:List Expr)(t:TT):Prop:=
 ∀(pins:List (Addr×Obj))(s:Shared)(σ:St)(H:Hp)(Q:Bool->Hp->Prop),Inv X pins σ H s->t σ H Q->
  wpAny (model X.prog X.w) X.A (forIn ifs true fun c r=>if r=true then do let ok<-isTrue c X.env (eval c X.env);pure (ForInStep.yield ok)else pure (ForInStep.yield r)) (TP X pins σ Q) X.xe s
def tTrue:TT:=fun _ H Q=>Q true H
theorem pts_nil{X:Cx}:PTs X [] tTrue:=fun _ _ _ H _ I h=>wpAny_tests_nil ⟨H,I,h⟩
theorem pts_one{X:Cx}{c:Expr}{t:TT}(h:PT X c t):PTs X [c] t:=fun pins s σ H Q I q=>wpAny_tests_one (h pins s σ H Q I q)
theorem codeAny_compLoop_go{prog:Program}{w:World}{A:Around}{R:Result->Shared->Prop}{s:Shared}{elt target iter:Expr}{ifs:List Expr}{scope:Scope}{pos:Pos}{it acc:Value}{env:Env}(I:Nat->Shared->Prop)
  (turn:∀n s,I n s->wpAny (model prog w) A (pyNext it) (fun r s₁=>match r with
   |none=>R (.ok .next) s₁
   |some v=>wpAny (model prog w) A (letOwnedTupleGo target it v) (fun _ s₁'=>wpAny (model prog w) A (assign target env v) (fun _ s₂=>
     wpAny (model prog w) A (forIn ifs true fun c r=>if r=true then do let ok<-isTrue c env (eval c env);pure (ForInStep.yield ok)else pure (ForInStep.yield r)) (fun ok s₃=>
      if ok=true then wpAny (model prog w) A (eval elt env) (fun x s₄=>
       wpAny (model prog w) A (call (.builtin "list.append") [acc,x]) (fun _ s₅=>∃m,m<n/\I m s₅) (fun _ _=>False) s₄) (fun _ _=>False) s₃
      else∃m,m<n/\I m s₃) (fun _ _=>False) s₂) (fun _ _=>False) s₁') (fun _ _=>False) s₁) (fun _ _=>False) s)
  (n:Nat) (h:I n s):
  codeAny (model prog w) A (.compLoop (.ListComp elt [⟨target,iter,ifs,0⟩] scope pos) 0 it acc env) R s:=by
 have lift:∀{α:Type}{t:Sem α}{Q:α->Shared->Prop}{E:Value->Shared->Prop}{s:Shared},wpAny (model prog w) A t Q (fun _ _=>False) s->wpAny (model prog w) A t Q E s:=
  fun h=>wpAny_mono h (fun _ _ q=>q) fun _ _ q=>q.elim
 refine codeAny_loop rfl I (fun n s hI=>?_) n h
 show wpAny _ A ((compTurn (.ListComp elt [⟨target,iter,ifs,0⟩] scope pos) 0 it acc env).onRaise (fun x=>do noteFrame x env;theTreesLotGoes x)) _ _ s
 refine wpAny_noted ?_
 rw[compTurn_list]
 refine wpAny_bind (wpAny_standAt (wpAny_bind (wpAny_mono (lift (turn n s hI)) (fun r s₁ h₁=>?_) fun _ _ h'=>h')))
 cases r with
 |none=>exact wpAny_pure h₁
 |some v=>
  refine wpAny_bind (wpAny_mono (lift h₁) (fun _ s₁' h₁'=>?_) fun _ _ h'=>h')
  refine wpAny_bind (wpAny_mono (lift h₁') (fun _ s₂ h₂=>wpAny_bind (wpAny_mono (lift h₂) (fun ok s₃ h₃=>?_) fun _ _ h'=>h')) fun _ _ h'=>h')
  cases ok with
  |false=>exact wpAny_pure ⟨rfl,h₃⟩
  |true=>
   exact wpAny_bind (wpAny_bind (wpAny_mono (lift h₃) (fun x s₄ h₄=>wpAny_bind (wpAny_mono (lift h₄) (fun _ s₅ h₅=>wpAny_pure (wpAny_pure ⟨rfl,h₅⟩)) fun _ _ h'=>h')) fun _ _ h'=>h'))
def BsOk(XN:List Str)(xn sn:List (Str×NameKind)):List Str->List (Option Nat)->Prop
 |[],[]=>True
 |_::N,none::bs=>BsOk XN xn sn N bs
 |x::N,some j::bs=>(XN[j]?=some x/\xn.lookup x=some .cell/\sn.lookup x=some .free)/\BsOk XN xn sn N bs
 |_,_=>False
def bst(bs:List (Option Nat))(σ:St):St:=bs.map fun o=>o.bind fun j=>(σ[j]?).join
theorem BsOk.len{XN:List Str}{xn sn:List (Str×NameKind)}:∀{N:List Str}{bs:List (Option Nat)},BsOk XN xn sn N bs->bs.length=N.length
 |[],[],_=>rfl
 |_::N,none::bs,h=>congrArg (·+1) (BsOk.len (N:=N) (bs:=bs) h)
 |_::N,some _::bs,h=>congrArg (·+1) (BsOk.len (N:=N) (bs:=bs) h.2)
theorem BsOk.get{XN:List Str}{xn sn:List (Str×NameKind)}:∀{N:List Str}{bs:List (Option Nat)}{i j:Nat},BsOk XN xn sn N bs->bs[i]?=some (some j)->∃x,N[i]?=some x/\XN[j]?=some x/\xn.lookup x=some .cell/\sn.lookup x=some .free
 |[],[],_,_,_,e=>by simp at e
 |_::N,none::bs,0,_,_,e=>by simp at e
 |_::N,none::bs,i+1,j,h,e=>by
  obtain⟨x,h1,h2⟩:=BsOk.get (N:=N) (bs:=bs) (i:=i) (j:=j) h (by simpa using e)
  exact⟨x,by simpa using h1,h2⟩
 |x::N,some k::bs,0,j,h,e=>by
  have:k=j:=by simpa using e
  subst this
  exact⟨x,rfl,h.1⟩
 |_::N,some k::bs,i+1,j,h,e=>by
  obtain⟨x,h1,h2⟩:=BsOk.get (N:=N) (bs:=bs) (i:=i) (j:=j) h.2 (by simpa using e)
  exact⟨x,by simpa using h1,h2⟩
theorem relabel_free{env:Env}:∀{names:List (Str×NameKind)}{x:Str},names.lookup x=some .free->
  ((names.map fun(n,k)=>if(k==NameKind.free&&env.scope.kind== .function&&env.kindOf n==some .cell)then(n,NameKind.cell)else(n,k)).lookup x=some .cell\/
  (names.map fun(n,k)=>if(k==NameKind.free&&env.scope.kind== .function&&env.kindOf n==some .cell)then(n,NameKind.cell)else(n,k)).lookup x=some .free)
 |[],_,h=>by simp at h
 |(n,k)::r,x,h=>by
  have ih:=@relabel_free env r x
  simp only[List.map_cons]
  cases hx:x==n with
  |true=>
   simp only[List.lookup_cons,hx]at h
   cases h
   by_cases hc:(NameKind.free==NameKind.free&&env.scope.kind== .function&&env.kindOf n==some .cell)=true
   ·rw[if_pos hc];simp only[List.lookup_cons,hx];simp
   ·rw[if_neg hc];simp only[List.lookup_cons,hx];simp
  |false=>
   simp only[List.lookup_cons,hx]at h
   by_cases hc:(k==NameKind.free&&env.scope.kind== .function&&env.kindOf n==some .cell)=true
   ·rw[if_pos hc];simp only[List.lookup_cons,hx];exact ih h
   ·rw[if_neg hc];simp only[List.lookup_cons,hx];exact ih h
theorem relabel_back{env:Env}:∀{names:List (Str×NameKind)}{x:Str},(∀y∈names,y.2≠.cell)->
  ((names.map fun(n,k)=>if(k==NameKind.free&&env.scope.kind== .function&&env.kindOf n==some .cell)then(n,NameKind.cell)else(n,k)).lookup x=some .cell\/
  (names.map fun(n,k)=>if(k==NameKind.free&&env.scope.kind== .function&&env.kindOf n==some .cell)then(n,NameKind.cell)else(n,k)).lookup x=some .free)->names.lookup x=some .free
 |[],_,_,h=>by simp at h
 |(n,k)::r,x,hn,h=>by
  have ih:=@relabel_back env r x fun y hy=>hn y (.tail _ hy)
  simp only[List.map_cons]at h
  cases hx:x==n with
  |true=>
   by_cases hc:(k==NameKind.free&&env.scope.kind== .function&&env.kindOf n==some .cell)=true
   ·simp only[Bool.and_eq_true,beq_iff_eq]at hc
    simp only[List.lookup_cons,hx]
    rw[hc.1.1]
   ·rw[if_neg hc]at h
    simp only[List.lookup_cons,hx]at h⊢
    rcases h with h|h
    ·exact absurd (Option.some.inj h) (hn (n,k) (.head _))
    ·exact h
  |false=>
   simp only[List.lookup_cons,hx]
   by_cases hc:(k==NameKind.free&&env.scope.kind== .function&&env.kindOf n==some .cell)=true
   ·rw[if_pos hc]at h;simp only[List.lookup_cons,hx]at h;exact ih h
   ·rw[if_neg hc]at h;simp only[List.lookup_cons,hx]at h;exact ih h
structure Blk(X:Cx)(scope:Scope)(cl:List (Str×Addr))(N:List Str)(bs:List (Option Nat)):Prop where
 clos:closureFor scope X.env=pure cl
 kind:scope.kind= .function
 cell:∀y∈scope.names,y.2≠.cell
 names:∀y∈scope.names,y.2= .local->scope.names.lookup y.1=some .local
 cl1:∀p∈cl,X.env.cells.lookup p.1=some p.2
 cl2:∀y∈scope.names,y.2= .free->(cl.lookup y.1).isSome=true
 bs:BsOk X.N X.env.scope.names scope.names N bs
section
variable{X:Cx}{scope:Scope}{cl:List (Str×Addr)}{N:List Str}{bs:List (Option Nat)}{pins:List (Addr×Obj)}{σ:St}{H:Hp}{s:Shared}{fp:List Addr}{C:Addr}
theorem Blk.c1(B:Blk X scope cl N bs){x:Str}{c:Addr}(h:cl.lookup x=some c):X.env.cells.lookup x=some c:=B.cl1 (x,c) (PySem.mem_of_lookup h)
theorem Blk.c2(B:Blk X scope cl N bs){x:Str}(h:(compEnvC scope cl C X.env).kindOf x=some .cell\/(compEnvC scope cl C X.env).kindOf x=some .free):∃c,cl.lookup x=some c:=by
 have h1:=relabel_back (env:=X.env) B.cell h
 exact Option.isSome_iff_exists.mp (B.cl2 (x,.free) (PySem.mem_of_lookup h1) rfl)
theorem Blk.ok(B:Blk X scope cl N bs)(I:Inv X pins σ H s)(hf:∀b∈fp,FpOk X pins H b) (ho:∀b∈fp,∃o,s.heap.get? b=some o/\∀v,o.data≠.cell v) (hC:s.heap.objs.size<=C):(cxBlk X scope cl C N fp s H).Ok:=by
 refine⟨I.ok.mod,B.kind,I.ok.glob,I.ok.blt,hC,fun x y c h1 h2=>I.ok.inj x y c (B.c1 h1) (B.c1 h2),fun x h=>B.c2 h,fun x c h _=>(Bool.false_ne_true h).elim,I.ok.hd,I.ok.frames,.inl rfl,fun b hb=>?_,I.bs,Nat.le_trans I.ok.bsz I.sz,fun b o e hb=>?_,fun b hb hb'=>?_,I.stack,I.stkFree⟩
 ·obtain⟨o,e,_⟩:=ho b hb
  obtain⟨_,_,_,_,f4,_⟩:=hf b hb
  exact⟨Nat.ne_of_lt (Nat.lt_of_lt_of_le (Heap.lt_size e) hC),fun x c h=>f4 x c (B.c1 h)⟩
 ·obtain⟨_,_,_,f3,_⟩:=hf b hb
  rcases f3 with z|z
  ·exact I.ok.noex b o e z
  ·exact absurd (Nat.lt_of_lt_of_le (Heap.lt_size e) (Nat.le_trans I.ok.bsz z)) (Nat.lt_irrefl _)
 ·obtain⟨_,f1,f2,_⟩:=hf b hb
  rcases List.mem_cons.mp (I.stkSub b hb')with z|z
  ·exact f1 z
  ·exact f2 z
theorem Blk.inv(B:Blk X scope cl N bs)(I:Inv X pins σ H s)(hf:∀b∈fp,FpOk X pins H b) (ho:∀b∈fp,∃o,s.heap.get? b=some o/\∀v,o.data≠.cell v) (hC:s.heap.objs.size<=C) {h':Heap} {t':Nat}
  (hk:∀b o,s.heap.get? b=some o->h'.get? b=some o) {m:Str->Option Value} (hn:h'.Ns C m) {D:Addr} {oD:Obj} (hD:h'.get? D=some oD) (hD1:s.heap.objs.size<=D) (hDC:D≠C) (hDd:∀v,oD.data≠.cell v):
  Inv (cxBlk X scope cl C N fp s H) [(D,oD)] (bst bs σ) H {s with heap:=h',toks:=t'}:=by
 have ok:(cxBlk X scope cl C N fp s H).Ok:=B.ok I hf ho hC
 refine⟨ok,rfl,I.bare,Un.kept hk,⟨m,hn,fun i x v e1 e2 e3=>?_⟩,fun x c h=>?_,I.hok.fresh hC,fun x c h=>I.freeC x c (B.c1 h),fun p hp=>?_,I.hok.kept hk,?_⟩
 ·have e2':(bst bs σ)[i]?=some (some v):=e2
  unfold bst at e2'
  rw[List.getElem?_map]at e2'
  cases q:bs[i]? with
  |none=>rw[q]at e2';cases e2'
  |some o=>
   rw[q]at e2'
   cases o with
   |none=>cases e2'
   |some j=>
    obtain⟨y,y1,y2,y3,y4⟩:=B.bs.get q
    have e1':N[i]?=some x:=e1
    rw[e1']at y1
    cases y1
    have e4:σ[j]?=some (some v):=by
     have z:(σ[j]?).join=some v:=Option.some.inj e2'
     cases w:σ[j]? with
     |none=>rw[w]at z;cases z
     |some o=>rw[w]at z;rw[show o=some v from z]
    obtain⟨mx,hmx,lx⟩:=I.loc
    obtain⟨u,r,l⟩:=lx j x v y2 e4 (.inr (.inl y3))
    refine⟨u,r,.inr ⟨relabel_free (env:=X.env) y4,?_⟩⟩
    rcases l with⟨l1,_⟩|⟨_,c,l2,l3⟩
    ·have l1':X.env.scope.names.lookup x=some .local:=l1
     rw[y3]at l1'
     cases l1'
    ·obtain⟨c',h'⟩:=Option.isSome_iff_exists.mp (B.cl2 (x,.free) (PySem.mem_of_lookup y4) rfl)
     have h2:=B.c1 h'
     rw[l2]at h2
     cases h2
     obtain⟨oc,hoc,hd⟩:=l3
     exact⟨c,h',oc,hk _ _ hoc,hd⟩
 ·obtain⟨v,oc,hoc,hd⟩:=I.cell x c (B.c1 h)
  exact⟨v,oc,hk _ _ hoc,hd⟩
 ·have e:p=(D,oD):=by simpa[cxBlk]using hp
  subst e
  refine⟨hD,I.hok.fresh hD1,hDC,fun z=>?_,hDd⟩
  have z':D∈frs X.stack:=z
  rcases List.mem_cons.mp (I.stkSub D z')with q|q
  ·exact Nat.lt_irrefl _ (Nat.lt_of_lt_of_le I.lt (by rw[<-q];exact hD1))
  ·exact I.nofs hD1 q
 ·show(bst bs σ).length=N.length
  unfold bst
  rw[List.length_map]
  exact B.bs.len
end
def tLC(bs:List (Option Nat))(wi:TI)(g:TG)(tt:TT)(te:TE):TE:=fun σ H Q=>wi σ H fun J H1=>∃W:Nat->Nat->List V->St->Hp->Prop,(∃m,W 0 m [] (bst bs σ) H1)/\∀i m ys σ' H',W i m ys σ' H'->
 (J.stop i H'/\ys.length<=sizeLine/\∀p,H' p=none->Q (.ref p) (upd H' p (.lst ys)))\/
 (J.go i H'/\ys.length<sizeLine/\∃N:List V->St->Hp->Prop,(∀zs σ2 H2,N zs σ2 H2->∃m',m'<m/\W (i+1) m' zs σ2 H2)/\∀x H2,J.yld i H' x H2->g x σ' H2 fun σ3 H3=>tt σ3 H3 fun b H4=>
  if b=true then te σ3 H4 fun v H5=>N (ys++[v]) σ3 H5 else N ys σ3 H4)
theorem pe_lc{X:Cx}{scope:Scope}{cl:List (Str×Addr)}{N:List Str}{bs:List (Option Nat)}{tg iter elt:Expr}{ifs:List Expr}{pos:Pos}{wi:TI}{g:TG}{tt:TT}{te:TE}(B:Blk X scope cl N bs)(hc:X.calm=true)
  (hi:PI X tg iter wi)(hg:∀C fp s H,PG (cxBlk X scope cl C N fp s H) tg g) (ht:∀C fp s H,PTs (cxBlk X scope cl C N fp s H) ifs tt) (he:∀C fp s H,PE (cxBlk X scope cl C N fp s H) elt te)
  (hs:∀x,foldedSetIterable iter X.env x=pure x:=by intro _;rfl):
  PE X (.ListComp elt [⟨tg,iter,ifs,0⟩] scope pos) (tLC bs wi g tt te):=by
 intro pins s σ H Q I h
 rw[eval_ListComp]
 refine wpAny_comprehension_free (use:=none) rfl hs B.clos B.kind B.names (thn (hi pins s σ H _ I h) fun v s1 h1=>thn h1 fun itv s2 h2=>?_)
 obtain⟨it,fp,tn,J,H2,rfl,I2,T,st2,f2,W,⟨m0,w0⟩,turn⟩:=h2
 refine wpAny_newObj_type (wpAny_newFunctionEnv B.cell (by intro y hy;simp at hy) (fun h₁ hns₁ hsb₁=>?_) B.kind)
 dsimp only at hns₁ hsb₁⊢
 generalize hG:s2.heap.push {cls:= .type "list",dict:=none,data:= .seq ([]:List Value).toArray}=G at hns₁ hsb₁⊢
 have hC:G.objs.size=s2.heap.objs.size+1:=by rw[<-hG,Heap.size_push]
 have hDC:s2.heap.objs.size≠G.objs.size:=by rw[hC];exact Nat.ne_of_lt (Nat.lt_succ_self _)
 have hCle:s2.heap.objs.size<=G.objs.size:=by rw[hC];exact Nat.le_succ _
 have old:∀b o,s2.heap.get? b=some o->h₁.get? b=some o:=fun b o e=>hsb₁.extBut b o (by rw[hC];exact Nat.ne_of_lt (Nat.lt_succ_of_lt (Heap.lt_size e))) (Heap.get?_push_of_some _ (hG▸Heap.get?_push_of_some _ e))
 have hacc:h₁.get? s2.heap.objs.size=some {cls:= .type "list",data:= .seq ([]:List Value).toArray 0}:=hsb₁.extBut _ _ hDC (Heap.get?_push_of_some _ (hG▸Heap.get?_push_size _ rfl))
 have stat:∀{D:Addr}{o:Obj}{H':Hp},s2.heap.objs.size<=D->(∀b∈fp,H' b=none)->∀b∈fp,FpOk (cxBlk X scope cl G.objs.size N fp s2 H2) [(D,o)] H' b:=fun{D o H'} hD hn b hb=>by
  obtain⟨ob,eb,_⟩:=T.obj _ _ st2 b hb
  obtain⟨_,f1,f3,f4,f5,_⟩:=f2 b hb
  have ok:=B.ok I2 f2 (T.obj _ _ st2) (C:=G.objs.size) hCle
  refine⟨hn b hb,(ok.exf b hb).1,ok.exfs b hb,.inl hb,(ok.exf b hb).2,fun p hp=>?_⟩
  have e:p=(D,o):=by simpa[cxBlk]using hp
  subst e
  exact Nat.ne_of_gt (Nat.lt_of_lt_of_le (Heap.lt_size eb) hD)
 have loop:∀s₃:Shared,s₃={s2 with heap:=h₁,toks:=s2.toks+([]:List (Str×Value)).length}->
   codeAny (model X.prog X.w) X.A (.compLoop (.ListComp elt [⟨tg,iter,ifs,0⟩] scope pos) 0 (.ref it) (.ref s2.heap.objs.size) (compEnvC scope cl G.objs.size X.env))
    (compPost (model X.prog X.w) X.A X.xe none (EP X pins σ Q) (.ref s2.heap.objs.size) G.objs.size) s₃:=by
  rintro s₃ rfl
  refine codeAny_compLoop_go (fun n s'=>∃i ys its k σ' H',Inv (cxBlk X scope cl G.objs.size N fp s2 H2) [(s2.heap.objs.size,{cls:= .type "list",data:= .seq (List.toArray its) k})] σ' H' s'/\Vals ys its/\tn i s'.heap/\(∀b∈fp,H' b=none)/\W i n ys σ' H') ?_ m0
   ⟨0,[],[],0,bst bs σ,H2,B.inv I2 f2 (T.obj _ _ st2) hCle old hns₁ hacc (Nat.le_refl _) hDC (fun v z=>nomatch z),.nil,T.keep _ _ _ st2 fun b _ o e=>old b o e,fun b hb=>(f2 b hb).1,w0⟩
  rintro n s3 ⟨i,ys,its,k,σ3,H3,I3,rv,st3,fr3,w3⟩
  have pD:=I3.pin _ (List.mem_append_right _ (.head _))
  rcases turn i n ys σ3 H3 w3 with⟨stop,hz,qn⟩|⟨go,hz,NN,hNN,step⟩
  ·refine thn (T.done (cxBlk X scope cl G.objs.size N fp s2 H2) rfl rfl rfl hc i _ s3 σ3 H3 (fun _ _=>False) I3 (stat (Nat.le_refl _) fr3) st3 stop) fun r s4⟨hr,I4⟩=>?_
   subst hr
   have pD4:=I4.pin _ (List.mem_append_right _ (.head _))
   obtain⟨m4,hn4,_⟩:=I4.loc
   refine⟨m4,hn4,fun h5 sb5=>?_⟩
   have hD5:h5.get? s2.heap.objs.size=some {cls:= .type "list",data:= .seq (List.toArray its) k}:=sb5.extBut _ _ hDC pD4.1
   have k5:∀b o,b≠G.objs.size->s4.heap.get? b=some o->h5.get? b=some o:=fun b o hb e=>sb5.extBut b o hb e
   have hC4:H3 G.objs.size=none:=I4.free
   have hok4:HOk X.prog X.w H3 s4.heap:=I4.hok
   have hok5:HOk X.prog X.w (upd H3 s2.heap.objs.size (.lst ys)) h5:=fun b u e=>by
    by_cases hb:b=s2.heap.objs.size
    ·subst hb
     rw[upd_same]at e
     cases e
     exact⟨hz,its,k,rv,hD5⟩
    ·rw[upd_ne hb]at e
     have nC:∀c u',H3 c=some u'->c≠G.objs.size:=fun c u' q z=>by rw[z,hC4]at q;cases q
     have nD:∀c u',H3 c=some u'->c≠s2.heap.objs.size:=fun c u' q z=>by rw[z,pD4.2.1]at q;cases q
     refine(hok4 b u e).stay (fun c v hc' q=>k5 c v ?_ q) (fun c q=>by rw[upd_ne (nD c _ q)];exact q) fun c xs q=>by rw[upd_ne (nD c _ q)];exact q
     rcases hc' with z|z
     ·rw[z];exact nC b u e
     ·exact nC c _ z
   have un4:Un (frs X.stack) fp H2 H3 s2.heap s4.heap:=I4.base
   have neC:∀b o,s2.heap.get? b=some o->b≠G.objs.size:=fun b o e=>Nat.ne_of_lt (Nat.lt_of_lt_of_le (Heap.lt_size e) hCle)
   have neD:∀b o,s2.heap.get? b=some o->b≠s2.heap.objs.size:=fun b o e=>Nat.ne_of_lt (Heap.lt_size e)
   have un5:Un (frs X.stack) fp H2 (upd H3 s2.heap.objs.size (.lst ys)) s2.heap h5:={
    keep:=fun b o e n hb hx=>k5 b o (neC b o e) (un4.keep b o e n hb hx)
    slot:=fun b o e n hb hx=>let⟨sl,q⟩:=un4.slot b o e n hb hx;⟨sl,k5 b _ (neC b o e) q⟩
    free:=fun b o e n hx=>by rw[upd_ne (neD b o e)];exact un4.free b o e n hx
    there:=fun b o e hx=>let⟨o',q⟩:=un4.there b o e hx;⟨o',k5 b _ (neC b o e) q⟩
    tups:=fun b xs e=>by rw[upd_ne (ne_of_none e (I2.hok.fresh (Nat.le_refl _)))];exact un4.tups b xs e
    frzs:=fun b o u e=>by rw[upd_ne (ne_of_none e (I2.hok.fresh (Nat.le_refl _)))];exact un4.frzs b o u e
    tbls:=fun b ps e=>by rw[upd_ne (ne_of_none e (I2.hok.fresh (Nat.le_refl _)))];exact un4.tbls b ps e}
   refine⟨.ref s2.heap.objs.size,_,I2.call' (s':={s4 with heap:=h5}) ((show s4.os=s2.os from I4.os)) un5 hok5 I4.bare (fun b hb=>?_),rfl,qn _ pD4.2.1⟩
   obtain⟨_,f1,f3,f4,f5,f6⟩:=f2 b hb
   exact⟨f4,f1,f5,f6⟩
  ·refine thn (T.item (cxBlk X scope cl G.objs.size N fp s2 H2) rfl rfl rfl hc i _ s3 σ3 H3 (fun _ _=>False) I3 (stat (Nat.le_refl _) fr3) st3 go) fun r s4⟨u,hr,h4⟩=>?_
   subst hr
   refine thn h4 fun _ s5⟨x,H5,I5,r5,y5,st5,fr5⟩=>?_
   have I5':=I5.pinned (stat (Nat.le_refl _) fr5) (T.obj _ _ st5)
   refine thn (hg _ _ _ _ _ s5 σ3 H5 x u _ I5' r5 (step x H5 y5)) fun _ s6⟨σ6,H6,I6,q6⟩=>?_
   refine thn (ht _ _ _ _ _ s6 σ6 H6 _ I6 q6) fun ok s7⟨H7,I7,q7⟩=>?_
   have back:∀{σ8:St}{H8:Hp}{s8:Shared}{pl:List (Addr×Obj)},Inv (cxBlk X scope cl G.objs.size N fp s2 H2) (pl++pinsAt fp s5.heap) σ8 H8 s8->tn (i+1) s8.heap/\∀b∈fp,H8 b=none:=fun{σ8 H8 s8 pl} I8=>
    ⟨T.keep _ _ _ st5 fun b hb o e=>(I8.pin (b,o) (List.mem_append_right _ (List.mem_append_right _ (mem_pinsAt hb e)))).1,fun b hb=>by
     obtain⟨o,e,d⟩:=T.obj _ _ st5 b hb
     exact(I8.pin (b,o) (List.mem_append_right _ (List.mem_append_right _ (mem_pinsAt hb e)))).2.1⟩
   cases ok with
   |false=>
    rw[if_neg Bool.false_ne_true]at q7⊢
    obtain⟨m',hm,w7⟩:=hNN _ _ _ q7
    exact⟨m',hm,i+1,ys,its,k,σ6,H7,I7.unpinned,rv,(back I7).1,(back I7).2,w7⟩
   |true=>
    rw[if_pos rfl]at q7⊢
    refine thn (he _ _ _ _ _ s7 σ6 H7 _ I7 q7) fun y s8⟨v8,H8,I8,r8,q8⟩=>?_
    obtain⟨m',hm,w8⟩:=hNN _ _ _ q8
    have pD8:=I8.pin _ (List.mem_append_right _ (List.mem_append_left _ (.head _)))
    have hl:=rv.length
    refine wpAny_list_append_plain ⟨k,pD8.1⟩ (fun h9 pl9 sb9=>?_) (by rw[List.size_toArray];omega)
    obtain⟨k9,e9⟩:=pl9
    have e9':h9.get? s2.heap.objs.size=some {cls:= .type "list",data:= .seq (List.toArray (its++[y])) k9}:=by rw[e9];simp
    have I8':Inv (cxBlk X scope cl G.objs.size N fp s2 H2) (pinsAt fp s5.heap) σ6 H8 s8:=I8.pins_of fun p hp=>I8.pin p (List.mem_append_right _ (List.mem_append_right _ hp))
    have I9:Inv (cxBlk X scope cl G.objs.size N fp s2 H2) (pinsAt fp s5.heap) σ6 H8 {s8 with heap:=h9}:=I8'.turned (it:=s2.heap.objs.size) (t':=s8.toks) (fun b o hb e=>sb9.extBut b o hb e) pD8.2.1 pD8.2.2.1 (.inr (Nat.le_refl _))
     (fun x c e z=>by
      obtain⟨vc,oc,hoc,hd⟩:=I8.cell x c e
      rw[z,pD8.1]at hoc
      cases hoc
      cases hd)
     fun p hp z=>by
      have hp':p∈pinsAt fp s5.heap:=by simpa[cxBlk]using hp
      obtain⟨q1,q2⟩:=of_pinsAt hp'
      obtain⟨ob,eb,_⟩:=T.obj _ _ st2 p.1 q1
      exact Nat.lt_irrefl _ (by have:=Heap.lt_size eb;rw[z]at this;exact this)
    have hk9:∀b∈fp,∀o,s8.heap.get? b=some o->h9.get? b=some o:=fun b hb o e=>sb9.extBut b o (fun z=>by
     obtain⟨ob,eb,_⟩:=T.obj _ _ st2 b hb
     exact Nat.lt_irrefl _ (by have:=Heap.lt_size eb;rw[z]at this;exact this)) e
    refine⟨m',hm,i+1,ys++[v8],its++[y],k9,σ6,H8,I9.pins_of fun p hp=>?_,rv.append (.cons r8 .nil),T.keep _ _ _ (back I8).1 hk9,(back I8).2,w8⟩
    have e:p=(s2.heap.objs.size,{cls:= .type "list",data:= .seq (List.toArray (its++[y])) k9}):=by simpa using hp
    subst e
    exact⟨e9',pD8.2.1,pD8.2.2.1,pD8.2.2.2.1,fun v z=>nomatch z⟩
 exact codeAny_compStart_list (loop _ rfl) (T.self _ 0 _ _ _ (T.keep _ _ _ st2 fun b _ o e=>old b o e) (loop _ rfl))
theorem lc_tup{K:PySem.W.Frag}{a:Addr}{xs:List V}{g:TG}{tt:TT}{te:TE}{σ:St}{H:Hp}{Q:VK}(Pv:Nat->List V->St->Hp->Prop)(hz:xs.length<=sizeLine)(h0:Pv 0 [] σ H)(hl:∀i ys σ H,i<=xs.length->Pv i ys σ H->SqT K H a xs/\ys.length<=i)
  (hs:∀i x ys σ H,xs[i]?=some x->Pv i ys σ H->g x σ H fun σ3 H3=>tt σ3 H3 fun b H4=>if b=true then te σ3 H4 fun v H5=>Pv (i+1) (ys++[v]) σ3 H5 else Pv (i+1) ys σ3 H4)
  (hd:∀ys σ H,Pv xs.length ys σ H->∀p,H p=none->Q (.ref p) (upd H p (.lst ys))):
  ∃W:Nat->Nat->List V->St->Hp->Prop,(∃m,W 0 m [] σ H)/\∀i m ys σ' H',W i m ys σ' H'->
   ((Itt K a).stop i H'/\ys.length<=sizeLine/\∀p,H' p=none->Q (.ref p) (upd H' p (.lst ys)))\/
   ((Itt K a).go i H'/\ys.length<sizeLine/\∃N:List V->St->Hp->Prop,(∀zs σ2 H2,N zs σ2 H2->∃m',m'<m/\W (i+1) m' zs σ2 H2)/\∀x H2,(Itt K a).yld i H' x H2->g x σ' H2 fun σ3 H3=>tt σ3 H3 fun b H4=>
    if b=true then te σ3 H4 fun v H5=>N (ys++[v]) σ3 H5 else N ys σ3 H4):=by
 refine⟨fun i m ys σ H=>m=xs.length-i/\i<=xs.length/\Pv i ys σ H,⟨xs.length,by simp,Nat.zero_le _,h0⟩,?_⟩
 rintro i m ys σ H ⟨rfl,hi,p⟩
 obtain⟨q,ql⟩:=hl i ys σ H hi p
 by_cases hlt:i<xs.length
 ·refine .inr ⟨⟨xs,xs[i],q,by simp[hlt]⟩,by omega,Pv (i+1),fun zs σ' H' p'=>⟨xs.length-(i+1),by omega,rfl,hlt,p'⟩,fun x H' y=>?_⟩
  obtain⟨e,y⟩:=y
  subst e
  exact hs i x ys σ _ (y xs q) p
 ·have e:i=xs.length:=by omega
  subst e
  exact .inl ⟨⟨xs,q,Nat.le_refl _⟩,by omega,hd ys σ H p⟩
def TabE(qual:Str)(c':Addr):HO:= .ext fun h=>h.CodeRec (.ref c') qual
def TabI(P:Addr)(pos:Pos)(qual:Str)(H:Hp):Prop:=
 H P=some (.tbl #[])\/∃c',H P=some (.tbl #[rawInt pos.line,rawInt pos.col,.ref c'])/\H c'=some (TabE qual c')
structure Gr(P:Addr)(pos:Pos)(qual:Str)(H H':Hp):Prop where
 keep:∀b o,H b=some o->b≠P->H' b=some o
 tab:TabI P pos qual H'
theorem Gr.trans{P:Addr}{pos:Pos}{qual:Str}{H H1 H2:Hp}(a:Gr P pos qual H H1)(b:Gr P pos qual H1 H2):Gr P pos qual H H2:=⟨fun c o e n=>b.keep c o (a.keep c o e n) n,b.tab⟩
theorem TabI.same{P:Addr}{pos:Pos}{qual:Str}{H H':Hp}(h:TabI P pos qual H)(s:Same H H'):TabI P pos qual H':=by
 rcases h with h|⟨c',h1,h2⟩
 ·exact .inl (s _ _ h)
 ·exact .inr ⟨c',s _ _ h1,s _ _ h2⟩
theorem Gr.same{P:Addr}{pos:Pos}{qual:Str}{H H1 H2:Hp}(a:Gr P pos qual H H1)(b:Same H1 H2):Gr P pos qual H H2:=⟨fun c o e n=>b c o (a.keep c o e n),a.tab.same b⟩
section
variable{X:Cx}{pins:List (Addr×Obj)}{σ:St}{H:Hp}{s:Shared}{A:Around}{E:Value->Shared->Prop}{a kS:Addr}{b:Bool}{vs:List Value}{kz:List Int}{keys:Array Value}{e e1:Nat}{P:PySem.Fin->Shared->Prop}
theorem Inv.track{D:Addr}{o:HO}(I:Inv X pins σ H s)(f:FpOk X pins H D)(hD:X.s₀.heap.objs.size<=D)(new:ObjOk X.prog X.w (upd H D o) s.heap D o):Inv X pins σ (upd H D o) s:=by
 have ne:∀c u,H c=some u->c≠D:=fun c u q=>ne_of_none q f.1
 refine⟨I.ok,I.os,I.bare,⟨I.base.keep,I.base.slot,fun c ob q n hx=>?_,I.base.there,fun c xs q=>?_,fun c ob u q=>?_,fun c ps q=>?_⟩,I.loc,I.cell,?_,fun x c q=>?_,fun p hp=>?_,fun c u q=>?_,I.len⟩
 ·rw[upd_ne (Nat.ne_of_lt (Nat.lt_of_lt_of_le (Heap.lt_size q) hD))]
  exact I.base.free c ob q n hx
 ·have z:=I.base.tups c xs q
  rw[upd_ne (ne c _ z)];exact z
 ·have z:=I.base.frzs c ob u q
  rw[upd_ne (ne c _ z)];exact z
 ·obtain⟨more,z⟩:=I.base.tbls c ps q
  exact⟨more,by rw[upd_ne (ne c _ z)];exact z⟩
 ·rw[upd_ne (Ne.symm f.2.1)];exact I.free
 ·rw[upd_ne (f.2.2.2.2.1 x c q)];exact I.freeC x c q
 ·obtain⟨p1,p2,p3⟩:=I.pin p hp
  exact⟨p1,by rw[upd_ne (f.2.2.2.2.2 p hp)];exact p2,p3⟩
 ·by_cases hc:c=D
  ·subst hc;rw[upd_same]at q;cases q;exact new
  ·rw[upd_ne hc]at q
   exact(I.hok c u q).stay (fun _ _ _ r=>r) (fun d r=>by rw[upd_ne (ne d _ r)];exact r) fun d xs r=>by rw[upd_ne (ne d _ r)];exact r
end
def only1(R:V->Hp->Prop):List V->Hp->Prop
 |[x],H=>R x H
 |_,_=>False
theorem only1_of{R:V->Hp->Prop}:∀{vs:List V}{H:Hp},only1 R vs H->∃x,vs=[x]/\R x H
 |[x],_,h=>⟨x,rfl,h⟩
 |[],_,h=>h.elim
 |_::_::_,_,h=>h.elim
section
variable{X:Cx}
theorem call_isinst:CallR X (.builtin "isinstance") (fun xs H Q=>∃x n t b,xs=[x,.ty n]/\TyOf X.K H x t/\PySem.W.kitOne X.K t (.type n)=some b/\Q (.bl b) H):=by
 intro pins s σ H xs us Q I r h
 obtain⟨x,n,t,b,rfl,ty,e,q⟩:=h
 obtain⟨u,w',rfl,rx,ry⟩:=vals2 r
 cases(show w'=Value.type n from ry)
 exact isinst_ok I rx ty e fun tk=>⟨.bl b,H,I.tok tk,rfl,q⟩
theorem Inv.big{pins:List (Addr×Obj)}{σ:St}{H:Hp}{s:Shared}(I:Inv X pins σ H s):sysModules<s.heap.objs.size:=by
 have h:mainGlobals<s.heap.objs.size:=(I.mod.glob.keeps I.bk).lt
 exact Nat.lt_trans (by decide) h
theorem dk_empty{P:Program}{w:World}{H:Hp}(h:Heap)(hb:sysModules<h.objs.size):ObjOk P w H (h.push {cls:= .type "dict",data:= .dict #[]}) h.objs.size (.dK []):=
 ⟨Nat.zero_le _,beq_eq_false_iff_ne.mpr (Ne.symm (Nat.ne_of_lt hb)),[],.nil,Heap.DictOf.new h⟩
def tDNewK:TE:=fun _ H Q=>∀p,H p=none->Q (.ref p) (upd H p (.dK []))
theorem pe_dnewK{pos:Pos}:PE X (.Dict [] [] pos) tDNewK:=fun pins s σ H Q I h=>
 wpAny_Dict_empty ⟨.ref s.heap.objs.size,_,I.laid (a:=s.heap.objs.size) (o:= .dK []) (t':=s.toks) (fun _ _ q=>Heap.get?_push_of_some _ q) (Nat.le_refl _) (dk_empty s.heap I.big),rfl,h _ (I.hok.fresh (Nat.le_refl _))⟩
theorem vals_of_get:∀{xs:List V}{us:List Value},xs.length=us.length->(∀(i:Nat) x u,xs[i]?=some x->us[i]?=some u->RelV x u)->Vals xs us
 |[],[],_,_=> .nil
 |[],_::_,h,_=>by simp at h
 |_::_,[],h,_=>by simp at h
 |x::xs,u::us,h,k=> .cons (k 0 x u rfl rfl) (vals_of_get (by simpa using h) fun i y w e1 e2=>k (i+1) y w (by simpa using e1) (by simpa using e2))
theorem call_maxs(hc:X.calm=true):CallR X (.builtin "max") (fun xs H Q=>∃p,∃ns:List Int,xs=[.ref p]/\(SqL X.K H p (ns.map V.int)\/SqT X.K H p (ns.map V.int))/\0<ns.length/\∀M,M∈ns->(∀a∈ns,a<=M)->Q (.int M) H):=by
 intro pins s σ H xs us Q I r h
 obtain⟨p,ns,rfl,hp,hne,q⟩:=h
 obtain⟨u,rfl,rx⟩:=vals1 r
 cases(show u=Value.ref p from rx)
 have fin:∀(vs:List Value)(it:Obj),Vals (ns.map V.int) vs->(∀i v,vs.toArray[i]?=some v->∃t,v=Value.int (ns.getD i 0) t)->∀v h' tk,vs.toArray[argBest (fun i j=>decide (ns.getD i 0>ns.getD j 0)) (vs.toArray.size-1)]?=some v->
   (∀b o,b ∉ [s.heap.objs.size]->(s.heap.push it).get? b=some o->h'.get? b=some o)->EP X pins σ Q v {s with heap:=h',toks:=tk}:=by
  intro vs it rv hval v h' tk hP hk
  obtain⟨t,rfl⟩:=hval _ _ hP
  have hlen:vs.length=ns.length:=by have:=rv.length;simpa using this.symm
  obtain⟨h1,h2⟩:=argBest_gt (fun i=>ns.getD i 0) (vs.toArray.size-1)
  rw[List.size_toArray,hlen]at h1 h2
  rw[List.size_toArray,hlen]
  refine⟨.int _,H,I.kept (t':=tk) fun b o e2=>hk b o (fun hm=>?_) (Heap.get?_push_of_some _ e2),⟨t,rfl⟩,q _ ?_ fun a ha=>?_⟩
  ·rw[List.mem_singleton.mp hm]at e2
   exact Nat.lt_irrefl _ (Heap.lt_size e2)
  ·have hlt:argBest (fun i j=>decide (ns.getD i 0>ns.getD j 0)) (ns.length-1)<ns.length:=by omega
   rw[List.getD_eq_getElem?_getD,List.getElem?_eq_getElem hlt]
   exact List.getElem_mem hlt
  ·obtain⟨j,hj,rfl⟩:=List.getElem_of_mem ha
   have:=h2 j (by omega)
   rw[List.getD_eq_getElem?_getD,List.getElem?_eq_getElem hj]at this
   exact this
 have hvals:∀vs:List Value,Vals (ns.map V.int) vs->∀i v,vs.toArray[i]?=some v->∃t,v=Value.int (ns.getD i 0) t:=by
  intro vs rv i v e
  have e':vs[i]?=some v:=by simpa using e
  have hlen:vs.length=ns.length:=by have:=rv.length;simpa using this.symm
  have hi:i<ns.length:=by rw[<-hlen];exact(List.getElem?_eq_some_iff.mp e').1
  obtain⟨u,e2,r2⟩:=rv.get (i:=i) (x:= .int ns[i]) (by rw[List.getElem?_map,List.getElem?_eq_getElem hi];rfl)
  rw[e']at e2
  cases e2
  obtain⟨t,rfl⟩:=r2
  exact⟨t,by rw[List.getD_eq_getElem?_getD,List.getElem?_eq_getElem hi];rfl⟩
 have pos:∀vs:List Value,Vals (ns.map V.int) vs->0<vs.toArray.size:=fun vs rv=>by
  have:=rv.length
  rw[List.length_map]at this
  rw[List.size_toArray];omega
 rcases hp with hp|hp
 ·obtain⟨vs,rv,pl,hz⟩:=I.list hp
  have hl:=pl.isList
  have hlt:p<s.heap.objs.size:=by obtain⟨_,e,_⟩:=hl;exact Heap.lt_size e
  refine call_max_walk (wpAny_pyIter_list hl ?_)
  refine⟨s.heap.objs.size,[s.heap.objs.size,p],[s.heap.objs.size],_,_,_,_,rfl,Walks.list (A:=X.A.in1) (I.ok.hd hc) _ p (Nat.ne_of_lt hlt) vs.toArray,⟨⟨_,Heap.get?_push_size _ rfl,rfl,rfl⟩,hl.push _⟩,fun b hb=>?_,pos vs rv,CmpOf.ints_gt (fun i=>ns.getD i 0) (hvals vs rv),fun v h' tk hP hk=>fin vs _ rv (hvals vs rv) v h' tk hP hk⟩
  show b<(s.heap.push _).objs.size
  rw[Heap.size_push]
  simp only[List.mem_cons,List.not_mem_nil,or_false]at hb
  rcases hb with rfl|rfl
  ·exact Nat.lt_succ_self _
  ·exact Nat.lt_succ_of_lt hlt
 ·obtain⟨vs,rv,pl,hz⟩:=I.tuple hp
  have hl:s.heap.IsTuple p vs.toArray:=pl
  have hlt:p<s.heap.objs.size:=by obtain⟨_,e,_⟩:=hl;exact Heap.lt_size e
  refine call_max_walk (wpAny_pyIter_tuple hl ?_)
  refine⟨s.heap.objs.size,[s.heap.objs.size,p],[s.heap.objs.size],_,_,_,_,rfl,Walks.tuple (A:=X.A.in1) (I.ok.hd hc) _ p (Nat.ne_of_lt hlt) vs.toArray,⟨⟨_,Heap.get?_push_size _ rfl,rfl,rfl⟩,hl.push _⟩,fun b hb=>?_,pos vs rv,CmpOf.ints_gt (fun i=>ns.getD i 0) (hvals vs rv),fun v h' tk hP hk=>fin vs _ rv (hvals vs rv) v h' tk hP hk⟩
  show b<(s.heap.push _).objs.size
  rw[Heap.size_push]
  simp only[List.mem_cons,List.not_mem_nil,or_false]at hb
  rcases hb with rfl|rfl
  ·exact Nat.lt_succ_self _
  ·exact Nat.lt_succ_of_lt hlt
end
theorem same_add{H:Hp}{d:Addr}{o:HO}(h:H d=Option.none):Same H (upd H d o):=fun b u e=>by rw[upd_ne (ne_of_none e h)];exact e
theorem le1000{n:Nat}(h:Nat.ble n 1000=true):n<=sizeLine:=by
 have:=Nat.le_of_ble_eq_true h
 rw[sizeLine_eq];omega
theorem leMil{n:Nat}(h:n<=100000):n<=sizeLine:=by rw[sizeLine_eq];omega
def plainE:Expr->Bool
 | .Starred _ _=>false
 |_=>true
theorem star_cons{e:Expr}{es:List Expr}{env:Env}(h:plainE e=true):starEach (e::es) env=(false,eval e env)::starEach es env:=by
 cases e<;>first|rfl|cases h
theorem star_any{env:Env}{pos:Pos}:∀{es:List Expr},es.all plainE=true->(backTo pos (starEach es env)).any (·.1)=false
 |[],_=>rfl
 |e::es,h=>by
  have h1:plainE e=true/\es.all plainE=true:=by simpa[List.all_cons,Bool.and_eq_true]using h
  rw[star_cons h1.1]
  have ih:=star_any (env:=env) (pos:=pos) h1.2
  unfold backTo at ih⊢
  rw[List.map_cons,List.any_cons,ih]
  rfl
theorem pa_c{X:Cx}{e:Expr}{es:List Expr}{te:TE}{t:TA}(ha:PE X e te)(hr:PA X es t)(hs:plainE e=true:=by rfl):PA X (e::es) (tCons te t):=pa_cons ha hr (star_cons hs)
structure FnE(P:Program)(w:World)(K:PySem.W.Frag)(mg:Str->Option Value)(base:Heap)(x:Str)(ps:List Str)(k:Nat)(sp:Sp):Prop where
 ex:∃f fd,FnOk P w K mg base CX0 k f fd ps sp/\mg x=some (.ref f)/\PySem.W.keepIn K (.ref f)=true/\Binds K fd ps []
theorem FnE.mono{P:Program}{w:World}{K:PySem.W.Frag}{mg:Str->Option Value}{base:Heap}{x:Str}{ps:List Str}{j k:Nat}{sp:Sp}(F:FnE P w K mg base x ps j sp)(h:j<=k):FnE P w K mg base x ps k sp:=
 let⟨f,fd,a,b⟩:=F.ex;⟨f,fd,a.mono h,b⟩
theorem pe_fn{X:Cx}{x:Str}{ps:List Str}{k:Nat}{sp:Sp}{e:Expr}{es:List Expr}{t:TA}{p pos:Pos}(F:FnE X.prog X.w X.K X.mg X.base x ps k sp)(hr:Room k X.A)(ha:PA X (e::es) t)(hg:Gl X x:=by rfl)
  (hdb:(x==("__debug__":Str))=false:=by decide)(he:starEach (e::es) X.env=(false,eval e X.env)::starEach es X.env:=by rfl)(hpl:(backTo pos (starEach es X.env)).any (·.1)=false:=by rfl):
  PE X (.Call (.Name x p) (e::es) [] pos) (tCall sp [] E0 t):=
 let⟨_,_,a,b,c,d⟩:=F.ex;pe_call a hr hg b c d .nil pass0 ha hdb he hpl
theorem pe_fc{X:Cx}{x:Str}{ps:List Str}{k:Nat}{sp:Sp}{e:Expr}{es:List Expr}{t:TA}{p pos:Pos}(F:FnE X.prog X.w X.K X.mg X.base x ps k sp)(hr:Room k X.A)(ha:PA X (e::es) t)(hg:Gl X x:=by rfl)
  (hdb:(x==("__debug__":Str))=false:=by decide)(he:plainE e=true:=by rfl)(hpl:es.all plainE=true:=by rfl):PE X (.Call (.Name x p) (e::es) [] pos) (tCall sp [] E0 t):=
 pe_fn F hr ha hg hdb (star_cons he) (star_any hpl)
def rMaxs(K:PySem.W.Frag):List V->Hp->VK->Prop:=fun xs H Q=>∃p,∃ns:List Int,xs=[.ref p]/\(SqL K H p (ns.map V.int)\/SqT K H p (ns.map V.int))/\0<ns.length/\∀M,M∈ns->(∀a∈ns,a<=M)->Q (.int M) H
theorem call_maxsK{X:Cx}{K:PySem.W.Frag}(hc:X.calm=true)(hK:X.K=K):CallR X (.builtin "max") (rMaxs K):=by
 subst hK
 exact call_maxs hc
def tTupS(t:TA):TE:=fun σ H Q=>t σ H fun xs H1=>Nat.ble xs.length 1000=true/\∀p H',Same H1 H'->H' p=some (.tup xs)->Q (.ref p) H'
def tLstS(t:TA):TE:=fun σ H Q=>t σ H fun xs H1=>Nat.ble xs.length 1000=true/\∀p H',Same H1 H'->H' p=some (.lst xs)->Q (.ref p) H'
section
variable{X:Cx}{e:Expr}{es:List Expr}{te:TE}{t:TA}{pos:Pos}
theorem OpR.weak{f:Value->Value->Sem Value}{r r':R2}(h:OpR X f r)(k:∀x y H Q,r' x y H Q->r x y H Q):OpR X f r':=fun pins s σ H x y v u Q I rx ry q=>h pins s σ H x y v u Q I rx ry (k _ _ _ _ q)
theorem CallR.weak{f:Value}{r r':List V->Hp->VK->Prop}(h:CallR X f r)(k:∀xs H Q,r' xs H Q->r xs H Q):CallR X f r':=fun pins s σ H xs us Q I r q=>h pins s σ H xs us Q I r (k _ _ _ q)
theorem pe_tupS{x1}(h:PA X es t):PE X (.Tuple es x1 pos) (tTupS t):=by
 intro pins s σ H Q I hq
 refine wpAny_Tuple_spliced (thn (h pos pins s σ H _ I hq) fun us s1⟨xs,H1,I1,r,z,q⟩=>⟨by rw[<-r.length];exact le1000 z,?_⟩)
 have hf:H1 s1.heap.objs.size=none:=I1.hok.fresh (Nat.le_refl _)
 refine⟨.ref s1.heap.objs.size,upd H1 s1.heap.objs.size (.tup xs),I1.laid (t':=s1.toks) (fun b u e=>Heap.get?_push_of_some _ e) (Nat.le_refl _) ?_,rfl,q _ _ (same_add hf) upd_same⟩
 exact⟨le1000 z,us,r,⟨_,Heap.get?_push_size _ rfl,rfl,_,rfl⟩⟩
theorem pe_lstS(h:PA X es t):PE X (.List es pos) (tLstS t):=by
 intro pins s σ H Q I hq
 refine wpAny_List_spliced (thn (h pos pins s σ H _ I hq) fun us s1⟨xs,H1,I1,r,z,q⟩=>⟨by rw[<-r.length];exact le1000 z,?_⟩)
 have hf:H1 s1.heap.objs.size=none:=I1.hok.fresh (Nat.le_refl _)
 refine⟨.ref s1.heap.objs.size,upd H1 s1.heap.objs.size (.lst xs),I1.laid (t':=s1.toks) (fun b u e=>Heap.get?_push_of_some _ e) (Nat.le_refl _) ?_,rfl,q _ _ (same_add hf) upd_same⟩
 exact⟨le1000 z,us,0,r,Heap.get?_push_size _ rfl⟩
def rCatLS:R2:=fun x y H Q=>∃a b xs ys,x= .ref a/\y= .ref b/\H a=some (.lst xs)/\H b=some (.lst ys)/\xs.length+ys.length<=100000/\∀p H',Same H H'->H' p=some (.lst (xs++ys))->Q (.ref p) H'
theorem op_catLS:OpR X (binaryOp .Add) rCatLS:=op_cat.weak fun x y H Q⟨a,b,xs,ys,e1,e2,h1,h2,z,q⟩=>⟨a,b,xs,ys,e1,e2,h1,h2,leMil z,fun p hp=>q p _ (same_add hp) upd_same⟩
theorem call_tuple_ofS:CallR X (.type "tuple") (fun xs H Q=>∃p ys,xs=[.ref p]/\(H p=some (.lst ys)\/H p=some (.tup ys))/\∀l H',Same H H'->H' l=some (.tup ys)->Q (.ref l) H'):=
 call_tuple_of.weak fun xs H Q⟨p,ys,e,h,q⟩=>⟨p,ys,e,by
  rcases h with h|h
  ·exact .inl ⟨SqL.of h,fun l hl=>q l _ (same_add hl) upd_same⟩
  ·exact .inr ⟨SqT.of h,q p H (Same.refl H) h⟩⟩
end
def MonoE(t:TE):Prop:=∀σ H(Q Q':VK),(∀v H',Q v H'->Q' v H')->t σ H Q->t σ H Q'
theorem mono_var(i:Nat):MonoE (tVar i):=fun σ H Q Q' k⟨v,e,q⟩=>⟨v,e,k _ _ q⟩
theorem mono_c(v:V):MonoE (tC v):=fun σ H Q Q' k q=>k _ _ q
theorem mono_ixT{K:PySem.W.Frag}{ta tb:TE}(ha:MonoE ta)(hb:MonoE tb):MonoE (tOp (rIxT K) ta tb):=fun σ H Q Q' k q=>ha σ H _ _ (fun x H1 q=>hb σ H1 _ _ (fun y H2⟨p,xs,i,v,e1,e2,h,a,q⟩=>⟨p,xs,i,v,e1,e2,h,a,k _ _ q⟩) q) q
def tLCT(K:PySem.W.Frag)(bs:List (Option Nat))(tl:TE)(g:TG)(tt:TT)(te:TE):TE:=fun σ H Q=>tl σ H fun x H1=>∃a xs,x= .ref a/\SqT K H1 a xs/\xs.length<=100000/\∃Pv:Nat->List V->St->Hp->Prop,Pv 0 [] (bst bs σ) H1/\
 (∀i ys σ H,i<=xs.length->Pv i ys σ H->SqT K H a xs/\ys.length<=i)/\
 (∀i x ys σ H,xs[i]?=some x->Pv i ys σ H->g x σ H fun σ3 H3=>tt σ3 H3 fun b H4=>if b=true then te σ3 H4 fun v H5=>Pv (i+1) (ys++[v]) σ3 H5 else Pv (i+1) ys σ3 H4)/\
 ∀ys σ H,Pv xs.length ys σ H->∀p H',Same H H'->H' p=some (.lst ys)->Q (.ref p) H'
theorem pe_lcT{X:Cx}{scope:Scope}{cl:List (Str×Addr)}{N:List Str}{bs:List (Option Nat)}{tg iter elt:Expr}{ifs:List Expr}{pos:Pos}{tl:TE}{g:TG}{tt:TT}{te:TE}(B:Blk X scope cl N bs)(hc:X.calm=true)
  (hl:PE X iter tl)(hm:MonoE tl)(hg:∀C fp s H,PG (cxBlk X scope cl C N fp s H) tg g) (ht:∀C fp s H,PTs (cxBlk X scope cl C N fp s H) ifs tt) (he:∀C fp s H,PE (cxBlk X scope cl C N fp s H) elt te)
  (hs:∀x,foldedSetIterable iter X.env x=pure x:=by intro _;rfl):PE X (.ListComp elt [⟨tg,iter,ifs,0⟩] scope pos) (tLCT X.K bs tl g tt te):=by
 intro pins s σ H Q I h
 refine @pe_lc X scope cl N bs tg iter elt ifs pos (iTup X.K tl) g tt te B hc (@pi_tup X _ _ _ hl) hg ht he hs pins s σ H Q I ?_
 refine hm σ H _ _ (fun x H1 h=>?_) h
 obtain⟨a,xs,e,hS,hz,Pv,p0,pl,ps,pd⟩:=h
 exact⟨a,e,⟨xs,hS⟩,lc_tup (Q:=Q) Pv (leMil hz) p0 pl ps fun ys σ H hp p hpn=>pd ys σ H hp p _ (same_add hpn) upd_same⟩
def MonoA(t:TA):Prop:=∀σ H(Q Q':List V->Hp->Prop),(∀v H',Q v H'->Q' v H')->t σ H Q->t σ H Q'
theorem monoA_nil:MonoA tNil:=fun σ H Q Q' k q=>k _ _ q
theorem monoA_cons{te:TE}{tr:TA}(ha:MonoE te)(hr:MonoA tr):MonoA (tCons te tr):=fun σ H Q Q' k q=>ha σ H _ _ (fun x H1 q=>hr σ H1 _ _ (fun xs H2 q=>k _ _ q) q) q
def rLen(K:PySem.W.Frag):List V->Hp->VK->Prop:=fun xs H Q=>∃p ys,xs=[.ref p]/\(SqL K H p ys\/SqT K H p ys)/\Q (.int ys.length) H
theorem call_lenK{X:Cx}{K:PySem.W.Frag}(hK:X.K=K):CallR X (.builtin "len") (rLen K):=by
 subst hK
 exact call_len_seq
theorem lc_range{lo:Int}{n:Nat}{g:TG}{tt:TT}{te:TE}{σ:St}{H:Hp}{Q:VK}(Pv:Nat->List V->St->Hp->Prop)(hz:n<=sizeLine)(h0:Pv 0 [] σ H)(hl:∀i ys σ H,i<=n->Pv i ys σ H->ys.length<=i)
  (hs:∀i ys σ H,i<n->Pv i ys σ H->g (.int (lo+i)) σ H fun σ3 H3=>tt σ3 H3 fun b H4=>if b=true then te σ3 H4 fun v H5=>Pv (i+1) (ys++[v]) σ3 H5 else Pv (i+1) ys σ3 H4)
  (hd:∀ys σ H,Pv n ys σ H->∀p,H p=none->Q (.ref p) (upd H p (.lst ys))):
  ∃W:Nat->Nat->List V->St->Hp->Prop,(∃m,W 0 m [] σ H)/\∀i m ys σ' H',W i m ys σ' H'->
   ((Itr lo n).stop i H'/\ys.length<=sizeLine/\∀p,H' p=none->Q (.ref p) (upd H' p (.lst ys)))\/
   ((Itr lo n).go i H'/\ys.length<sizeLine/\∃N:List V->St->Hp->Prop,(∀zs σ2 H2,N zs σ2 H2->∃m',m'<m/\W (i+1) m' zs σ2 H2)/\∀x H2,(Itr lo n).yld i H' x H2->g x σ' H2 fun σ3 H3=>tt σ3 H3 fun b H4=>
    if b=true then te σ3 H4 fun v H5=>N (ys++[v]) σ3 H5 else N ys σ3 H4):=by
 refine⟨fun i m ys σ H=>m=n-i/\i<=n/\Pv i ys σ H,⟨n,by simp,Nat.zero_le _,h0⟩,?_⟩
 rintro i m ys σ H ⟨rfl,hi,p⟩
 have ql:=hl i ys σ H hi p
 by_cases hlt:i<n
 ·refine .inr ⟨hlt,by omega,Pv (i+1),fun zs σ' H' p'=>⟨n-(i+1),by omega,rfl,hlt,p'⟩,fun x H' y=>?_⟩
  obtain⟨e,y⟩:=y
  subst e
  subst y
  exact hs i ys σ _ hlt p
 ·have e:i=n:=by omega
  subst e
  exact .inl ⟨Nat.le_refl _,by omega,hd ys σ H p⟩
def tLCR(bs:List (Option Nat))(ta:TA)(g:TG)(tt:TT)(te:TE):TE:=fun σ H Q=>ta σ H fun vs H1=>∃n:Nat,vs=[.int (n:Int)]/\n<=100000/\∃Pv:Nat->List V->St->Hp->Prop,Pv 0 [] (bst bs σ) H1/\
 (∀i ys σ H,i<=n->Pv i ys σ H->ys.length<=i)/\
 (∀i ys σ H,i<n->Pv i ys σ H->g (.int (0+i)) σ H fun σ3 H3=>tt σ3 H3 fun b H4=>if b=true then te σ3 H4 fun v H5=>Pv (i+1) (ys++[v]) σ3 H5 else Pv (i+1) ys σ3 H4)/\
 ∀ys σ H,Pv n ys σ H->∀p H',Same H H'->H' p=some (.lst ys)->Q (.ref p) H'
theorem pe_lcR{X:Cx}{scope:Scope}{cl:List (Str×Addr)}{N:List Str}{bs:List (Option Nat)}{tg a elt:Expr}{ifs:List Expr}{p pos' pos:Pos}{ta:TA}{g:TG}{tt:TT}{te:TE}(B:Blk X scope cl N bs)(hc:X.calm=true)
  (hgl:Gl X "range")(hmr:X.mg "range"=none)(ha:PA X [a] ta)(hm:MonoA ta)(hpl:plainE a=true)(hg:∀C fp s H,PG (cxBlk X scope cl C N fp s H) tg g) (ht:∀C fp s H,PTs (cxBlk X scope cl C N fp s H) ifs tt) (he:∀C fp s H,PE (cxBlk X scope cl C N fp s H) elt te)
  (hs:∀x,foldedSetIterable (.Call (.Name "range" p) [a] [] pos') X.env x=pure x:=by intro _;rfl):PE X (.ListComp elt [⟨tg,.Call (.Name "range" p) [a] [] pos',ifs,0⟩] scope pos) (tLCR bs ta g tt te):=by
 intro pins s σ H Q I h
 refine @pe_lc X scope cl N bs tg _ elt ifs pos (iRng1 ta) g tt te B hc (@pi_range1 X tg a ta p pos' hgl hmr ha (star_cons hpl)) hg ht he hs pins s σ H Q I ?_
 refine hm σ H _ _ (fun vs H1 h=>?_) h
 obtain⟨n,e,hz,Pv,p0,pl,ps,pd⟩:=h
 refine⟨(n:Int),e,by omega,by omega,?_⟩
 rw[Int.toNat_natCast]
 exact lc_range (Q:=Q) Pv (leMil hz) p0 pl ps fun ys σ H hp p hpn=>pd ys σ H hp p _ (same_add hpn) upd_same
section
variable{X:Cx}
def rMins(K:PySem.W.Frag):List V->Hp->VK->Prop:=fun xs H Q=>∃p,∃ns:List Int,xs=[.ref p]/\(SqL K H p (ns.map V.int)\/SqT K H p (ns.map V.int))/\0<ns.length/\∀M,M∈ns->(∀a∈ns,M<=a)->Q (.int M) H
theorem call_mins(hc:X.calm=true):CallR X (.builtin "min") (rMins X.K):=by
 intro pins s σ H xs us Q I r h
 obtain⟨p,ns,rfl,hp,hne,q⟩:=h
 obtain⟨u,rfl,rx⟩:=vals1 r
 cases(show u=Value.ref p from rx)
 have fin:∀(vs:List Value)(it:Obj),Vals (ns.map V.int) vs->(∀i v,vs.toArray[i]?=some v->∃t,v=Value.int (ns.getD i 0) t)->∀v h' tk,vs.toArray[argBest (fun i j=>decide (ns.getD i 0<ns.getD j 0)) (vs.toArray.size-1)]?=some v->
   (∀b o,b ∉ [s.heap.objs.size]->(s.heap.push it).get? b=some o->h'.get? b=some o)->EP X pins σ Q v {s with heap:=h',toks:=tk}:=by
  intro vs it rv hval v h' tk hP hk
  obtain⟨t,rfl⟩:=hval _ _ hP
  have hlen:vs.length=ns.length:=by have:=rv.length;simpa using this.symm
  obtain⟨h1,h2⟩:=argBest_lt (fun i=>ns.getD i 0) (vs.toArray.size-1)
  rw[List.size_toArray,hlen]at h1 h2
  rw[List.size_toArray,hlen]
  refine⟨.int _,H,I.kept (t':=tk) fun b o e2=>hk b o (fun hm=>?_) (Heap.get?_push_of_some _ e2),⟨t,rfl⟩,q _ ?_ fun a ha=>?_⟩
  ·rw[List.mem_singleton.mp hm]at e2
   exact Nat.lt_irrefl _ (Heap.lt_size e2)
  ·have hlt:argBest (fun i j=>decide (ns.getD i 0<ns.getD j 0)) (ns.length-1)<ns.length:=by omega
   rw[List.getD_eq_getElem?_getD,List.getElem?_eq_getElem hlt]
   exact List.getElem_mem hlt
  ·obtain⟨j,hj,rfl⟩:=List.getElem_of_mem ha
   have:=h2 j (by omega)
   rw[List.getD_eq_getElem?_getD (i:=j),List.getElem?_eq_getElem hj]at this
   exact this
 have hvals:∀vs:List Value,Vals (ns.map V.int) vs->∀i v,vs.toArray[i]?=some v->∃t,v=Value.int (ns.getD i 0) t:=by
  intro vs rv i v e
  have e':vs[i]?=some v:=by simpa using e
  have hlen:vs.length=ns.length:=by have:=rv.length;simpa using this.symm
  have hi:i<ns.length:=by rw[<-hlen];exact(List.getElem?_eq_some_iff.mp e').1
  obtain⟨u,e2,r2⟩:=rv.get (i:=i) (x:= .int ns[i]) (by rw[List.getElem?_map,List.getElem?_eq_getElem hi];rfl)
  rw[e']at e2
  cases e2
  obtain⟨t,rfl⟩:=r2
  exact⟨t,by rw[List.getD_eq_getElem?_getD,List.getElem?_eq_getElem hi];rfl⟩
 have pos:∀vs:List Value,Vals (ns.map V.int) vs->0<vs.toArray.size:=fun vs rv=>by
  have:=rv.length
  rw[List.length_map]at this
  rw[List.size_toArray];omega
 rcases hp with hp|hp
 ·obtain⟨vs,rv,pl,hz⟩:=I.list hp
  have hl:=pl.isList
  have hlt:p<s.heap.objs.size:=by obtain⟨_,e,_⟩:=hl;exact Heap.lt_size e
  refine call_min_walk (wpAny_pyIter_list hl ?_)
  refine⟨s.heap.objs.size,[s.heap.objs.size,p],[s.heap.objs.size],_,_,_,_,rfl,Walks.list (A:=X.A.in1) (I.ok.hd hc) _ p (Nat.ne_of_lt hlt) vs.toArray,⟨⟨_,Heap.get?_push_size _ rfl,rfl,rfl⟩,hl.push _⟩,fun b hb=>?_,pos vs rv,CmpOf.ints_lt (fun i=>ns.getD i 0) (hvals vs rv),fun v h' tk hP hk=>fin vs _ rv (hvals vs rv) v h' tk hP hk⟩
  show b<(s.heap.push _).objs.size
  rw[Heap.size_push]
  simp only[List.mem_cons,List.not_mem_nil,or_false]at hb
  rcases hb with rfl|rfl
  ·exact Nat.lt_succ_self _
  ·exact Nat.lt_succ_of_lt hlt
 ·obtain⟨vs,rv,pl,hz⟩:=I.tuple hp
  have hl:s.heap.IsTuple p vs.toArray:=pl
  have hlt:p<s.heap.objs.size:=by obtain⟨_,e,_⟩:=hl;exact Heap.lt_size e
  refine call_min_walk (wpAny_pyIter_tuple hl ?_)
  refine⟨s.heap.objs.size,[s.heap.objs.size,p],[s.heap.objs.size],_,_,_,_,rfl,Walks.tuple (A:=X.A.in1) (I.ok.hd hc) _ p (Nat.ne_of_lt hlt) vs.toArray,⟨⟨_,Heap.get?_push_size _ rfl,rfl,rfl⟩,hl.push _⟩,fun b hb=>?_,pos vs rv,CmpOf.ints_lt (fun i=>ns.getD i 0) (hvals vs rv),fun v h' tk hP hk=>fin vs _ rv (hvals vs rv) v h' tk hP hk⟩
  show b<(s.heap.push _).objs.size
  rw[Heap.size_push]
  simp only[List.mem_cons,List.not_mem_nil,or_false]at hb
  rcases hb with rfl|rfl
  ·exact Nat.lt_succ_self _
  ·exact Nat.lt_succ_of_lt hlt
theorem call_minsK{K:PySem.W.Frag}(hc:X.calm=true)(hK:X.K=K):CallR X (.builtin "min") (rMins K):=by
 subst hK
 exact call_mins hc
end
end L2
namespace PySem
open Sem (wp)
open AutoSeq1 (wpAny_loadPart')
section
variable{prog:Program}{w:World}{A:Around}{E:Value->Shared->Prop}{s:Shared}
theorem nextOf_tuple_item{it l:Addr}{i:Nat}{items}{x:Value}{Q:Value->Shared->Prop}(hit:s.heap.IsTupleIter it l i)
  (hl:s.heap.IsTuple l items)(hx:items[i]?=some x)
  (hQ:∀h',h'.IsTupleIter it l (i+1)->Heap.SameBut it s.heap h'->Q x {s with heap:=h'}):
  wpAny (model prog w) A (Builtin.SmallTypes.nextOf (.ref it)) Q E s:=by
 obtain⟨o,ho,hc,hd⟩:=id hit
 obtain⟨ol,hol,_,nl,hdl⟩:=hl
 unfold Builtin.SmallTypes.nextOf
 refine wpAny_bind (wpAny_callSpecial?_slot (name:=Str.ofString "__next__") hit.typeIs F.slot_tuple_iterator_next
  (wpAny_call_entry F.slot_tuple_iterator_next hit.typeIs F.entry_tuple_iterator_next ?_ (F.args_tuple_iterator_next_1 _)))
 show wpAny _ _ (field (.ref it) 0>>=_) _ _ s
 refine wpAny_bind (wpAny_field ho hd (x:= .ref l) rfl ?_)
 show wpAny _ _ (if(Value.ref l==Value.none)=true then _ else _) _ _ s
 rw[if_neg (show¬((Value.ref l==Value.none)=true)from Bool.false_ne_true)]
 show wpAny _ _ (field (.ref it) 1>>=_) _ _ s
 refine wpAny_bind (wpAny_field ho hd (x:= .int i 0) rfl ?_)
 show wpAny _ _ (seqItems? (.ref l)>>=_) _ _ s
 refine wpAny_bind (wpAny_seqItems hol hdl ?_)
 simp only[Int.toNat_natCast,hx]
 refine wpAny_bind (wpAny_setField ho hd (by simp) (wpAny_pure ⟨x,rfl,wpAny_pure (hQ _ ?_ (Heap.SameBut.update ..))⟩))
 exact⟨_,Heap.get?_update_self _ ho (Obj.isFreed_of_fields (Obj.data_mapFields hd _)),(Obj.cls_mapFields ..).trans hc,by
  rw[Obj.data_mapFields hd];simp[rawInt]⟩
theorem nextOf_tuple_end{it l:Addr}{i:Nat}{items}{Q:Value->Shared->Prop}(hh:A.handled=none)
  (hit:s.heap.IsTupleIter it l i)(hl:s.heap.IsTuple l items)(hx:items[i]?=none)
  (hE:∀h' e,Heap.ExtBut it s.heap h'->(∃o,h'.get? e=some o/\o.cls= .type "StopIteration")->E (.ref e) {s with heap:=h'}):
  wpAny (model prog w) A (Builtin.SmallTypes.nextOf (.ref it)) Q E s:=by
 obtain⟨o,ho,hc,hd⟩:=id hit
 obtain⟨ol,hol,_,nl,hdl⟩:=hl
 unfold Builtin.SmallTypes.nextOf
 refine wpAny_bind (wpAny_callSpecial?_slot (name:=Str.ofString "__next__") hit.typeIs F.slot_tuple_iterator_next
  (wpAny_call_entry F.slot_tuple_iterator_next hit.typeIs F.entry_tuple_iterator_next ?_ (F.args_tuple_iterator_next_1 _)))
 show wpAny _ _ (field (.ref it) 0>>=_) _ _ s
 refine wpAny_bind (wpAny_field ho hd (x:= .ref l) rfl ?_)
 show wpAny _ _ (if(Value.ref l==Value.none)=true then _ else _) _ _ s
 rw[if_neg (show¬((Value.ref l==Value.none)=true)from Bool.false_ne_true)]
 show wpAny _ _ (field (.ref it) 1>>=_) _ _ s
 refine wpAny_bind (wpAny_field ho hd (x:= .int i 0) rfl ?_)
 show wpAny _ _ (seqItems? (.ref l)>>=_) _ _ s
 refine wpAny_bind (wpAny_seqItems hol hdl ?_)
 simp only[Int.toNat_natCast,hx]
 refine wpAny_bind (wpAny_rule (wpAny_bind (wpAny_setField ho hd (by simp) ?_)))
 show wpAny _ _ (newExc (.type "StopIteration") []>>=_) _ _ _
 refine wpAny_bind ?_
 simp only[newExc,newTuple]
 refine wpAny_bind (wpAny_newObj_type ?_ (by size_fits))
 refine wpAny_bind (m:=firstArgMember _ _) (wpAny_of_eq (a:=Value.none) (by first|rfl|(simp only[firstArgMember];rfl)) ?_)
 refine wpAny_newObj_type ?_ (by size_fits)
 simp only[raiseNew]
 refine wpAny_bind (wpAny_handled ?_)
 first|rw[show A.in1.handled=none from hh]|rw[hh]
 refine wpAny_bind (wpAny_pure (wpAny_throw ?_))
 exact hE _ _ (((Heap.SameBut.update ..).extBut.push _).push _) ⟨_,Heap.get?_push_size _ rfl,rfl⟩
end
theorem Draws.tupleD{prog:Program}{w:World}{A:Around}(hh:A.handled=none)(it l:Addr)(hne:l≠it)(items:Array Value):
  Draws prog w A it [it,l] items.size (fun i v=>items[i]?=some v) (fun i h=>h.IsTupleIter it l i/\h.IsTuple l items)where
 live:=fun _ _ st=>let⟨o,ho,_⟩:=st.1;⟨o,ho⟩
 frame:=fun _ _ _ st hk=>⟨let⟨o,ho,r⟩:=st.1;⟨o,hk it (by simp) o ho,r⟩,let⟨o,ho,r⟩:=st.2;⟨o,hk l (by simp) o ho,r⟩⟩
 item:=fun i s Q E hi st hQ=>by
  refine nextOf_tuple_item st.1 st.2 (x:=items[i]) (by simp[hi]) fun h' hit' hs'=>?_
  exact hQ _ h' s.toks (by simp[hi]) ⟨hit',st.2.extBut hs'.extBut hne⟩ hs'
 done:=fun s Q E st hE=>nextOf_tuple_end hh st.1 st.2 (by simp) hE
theorem meets_enumerate_newT(l:Addr)(items:Array Value)(n:Nat)(dct:Option Addr)(sl:Array (Option Value)):
  Meets (Builtin.«enumerate.__new__» ⟨[.type "enumerate",.ref l],[]⟩) (fun _ R s=>s.heap.get? l=some {cls:= .type "tuple",dict:=dct,data:= .seq items n,slots:=sl}/\
   R (.ok (.ret (.ref (s.heap.push {cls:= .type "tuple_iterator",data:= .fields #[.ref l,.int 0 0]}).objs.size)))
    {s with heap:=(s.heap.push {cls:= .type "tuple_iterator",data:= .fields #[.ref l,.int 0 0]}).push {cls:= .type "enumerate",data:= .fields #[.none,.bool false,.ref s.heap.objs.size,rawInt 0,.none,.none]}}):=
 .of_wp fun prog w A R s h=>by
  obtain⟨hp,g,d,tk,os⟩:=s;obtain⟨hl,h⟩:=h
  have hsub:=sub_enumerate
  have hL:Heap.IsTuple (Shared.heap ⟨hp,g,d,tk,os⟩) l items:=⟨_,hl,rfl,n,rfl⟩
  wp_walk using wpAny_loadPart' hl
  refine wpAny_stack_any fun st=>wpAny_pure ?_
  split
  ·rename_i c _ _ _ _ _
   cases(c==Value.type "enumerate")
   ·wp_walk using wpAny_loadPart' hl,wpAny_pyIter_tuple hL
    exact⟨_,rfl,h⟩
   ·wp_walk using wpAny_loadPart' hl,wpAny_pyIter_tuple hL
    exact⟨_,rfl,h⟩
  ·wp_walk using wpAny_loadPart' hl,wpAny_pyIter_tuple hL
   exact⟨_,rfl,h⟩
section
variable{prog:Program}{w:World}{A:Around}{E:Value->Shared->Prop}{s:Shared}
theorem call_enumerate_tuple{l:Addr}{items:Array Value}{Q:Value->Shared->Prop}(hL:s.heap.IsTuple l items)
  (h:∀h',IsEnum h' (s.heap.objs.size+1) s.heap.objs.size 0 .none->h'.IsTupleIter s.heap.objs.size l 0->h'.objs.size=s.heap.objs.size+2->
   (∀b o,s.heap.get? b=some o->h'.get? b=some o)->Q (.ref (s.heap.objs.size+1)) {s with heap:=h'}):
  wpAny (model prog w) A (call (.type "enumerate") [.ref l]) Q E s:=by
 obtain⟨⟨c,dct,dt,sl⟩,hl,hc,n,hd⟩:=hL
 replace hc:c= .type "tuple":=hc
 replace hd:dt= .seq items n:=hd
 subst hc hd
 refine callType_new F.called_enumerate (by decide) (F.typeCall_enumerate_1 _) (F.newCall_enumerate_1 _) (fun obj=>F.args_object_init_2 obj _) F.entry_enumerate_new
  (meets_enumerate_newT l items n dct sl) ⟨hl,?_⟩
 have hz:(s.heap.push {cls:= .type "tuple_iterator",data:= .fields #[.ref l,.int 0 0]}).objs.size=s.heap.objs.size+1:=Heap.size_push ..
 show _/\_
 rw[hz]
 have he:IsEnum ((s.heap.push {cls:= .type "tuple_iterator",data:= .fields #[.ref l,.int 0 0]}).push
   {cls:= .type "enumerate",data:= .fields #[.none,.bool false,.ref s.heap.objs.size,rawInt 0,.none,.none]}) (s.heap.objs.size+1) s.heap.objs.size 0 .none:=by
  have:=Heap.get?_push_size (s.heap.push {cls:= .type "tuple_iterator",data:= .fields #[.ref l,.int 0 0]})
   (o:={cls:= .type "enumerate",data:= .fields #[.none,.bool false,.ref s.heap.objs.size,rawInt 0,.none,.none]}) rfl
  rw[hz]at this;exact this
 refine⟨⟨_,he,rfl⟩,h _ he ⟨_,Heap.get?_push_of_some _ (Heap.get?_push_size _ rfl),rfl,rfl⟩ (by rw[Heap.size_push,hz]) fun b o x=>Heap.get?_push_of_some _ (Heap.get?_push_of_some _ x)⟩
end
end PySem
namespace L2
open PySem PySem.Spec PyProof.Rows
theorem Inv.turnedL{X:Cx}{pins:List (Addr×Obj)}{σ:St}{H:Hp}{s:Shared}{h':Heap}{t':Nat}{ch:List Addr}(I:Inv X pins σ H s)(k:∀b o,b ∉ ch->s.heap.get? b=some o->h'.get? b=some o) (hf:∀b∈ch,FpOk X pins H b):Inv X pins σ H {s with heap:=h',toks:=t'}:=by
 have nit:∀b u,H b=some u->b ∉ ch:=fun b u e z=>by rw[(hf b z).1]at e;cases e
 refine I.step (g':=s.gens) (d':=s.drawn) (ch:=ch) (fun b hb=>⟨(hf b hb).2.2.2.1,(hf b hb).2.1,(hf b hb).2.2.2.2.1,(hf b hb).2.2.2.2.2⟩) (fun b o _ _ hc e _=>k b o hc e) (fun b o _ _ hc e _=>⟨o.slots,k b o hc e⟩) (fun _ _ _ _ n=>n)
  (fun b o hc e=>⟨o,k b o hc e⟩) (fun _ _ e=>e) (fun _ _ _ e=>e) (fun b ps e=>⟨#[],by rw[e];simp⟩) (fun m hm=>?_) (fun b u e=>?_) I.bare
 ·obtain⟨o,es,ep,ho,r⟩:=hm
  exact⟨o,es,ep,k _ o (fun z=>(hf _ z).2.1 rfl) ho,r⟩
 ·refine(I.hok b u e).stay (fun c v hc q=>k c v ?_ q) (fun _ q=>q) fun _ _ q=>q
  rcases hc with z|z
  ·rw[z];exact nit b u e
  ·exact nit c _ z
def Ite(K:PySem.W.Frag)(a:Addr):It:=
 ⟨fun i H=>∃xs x,SqT K H a xs/\xs[i]?=some x,fun i H x H'=>∃T y,x= .ref T/\H T=none/\H'=upd H T (.tup [.int i,y])/\∀xs,SqT K H a xs->xs[i]?=some y,fun i H=>∃xs,SqT K H a xs/\xs.length<=i⟩
theorem turn_enum{P:Program}{w:World}{K:PySem.W.Frag}{elts:List Expr}{x1:Nat}{pos:Pos}(a e it:Addr)(hne:e≠it):
  Turn P w K (.Tuple elts x1 pos) (Ite K a) [e,it] e (fun i h=>(∃old,IsEnum h e it i old)/\h.IsTupleIter it a i)where
 mem:=by simp
 obj:=fun i h st b hb=>by
  obtain⟨⟨old,he⟩,o,ho,hc,hd⟩:=st
  rcases List.mem_cons.mp hb with rfl|hb
  ·exact⟨_,he,fun v z=>nomatch z⟩
  ·rw[List.mem_singleton.mp hb]
   exact⟨o,ho,fun v z=>by rw[hd]at z;cases z⟩
 keep:=fun i h h' st k=>by
  obtain⟨⟨old,he⟩,o,ho,r⟩:=st
  exact⟨⟨old,k e (by simp) _ he⟩,o,k it (by simp) o ho,r⟩
 item:=by
  intro X hP hw hK hc i pins s σ H E I hf st hg
  subst hP hw hK
  obtain⟨xs,x,hq,hx⟩:=hg
  obtain⟨its,rv,p,hz⟩:=I.tuple hq
  obtain⟨u,hu,ru⟩:=rv.get hx
  obtain⟨⟨old,he⟩,hit⟩:=st
  have fe:=hf e (by simp)
  have fi:=hf it (by simp)
  have ht:s.heap.IsTuple a its.toArray:=p
  have hlt:i<its.toArray.size:=by
   rw[List.size_toArray]
   exact(List.getElem?_eq_some_iff.mp hu).1
  have hai:a≠it:=fun z=>by
   obtain⟨o,ho,h1,_⟩:=ht
   obtain⟨o',ho',h2,_⟩:=hit
   rw[z,ho']at ho
   cases ho
   rw[h2]at h1
   exact absurd (Value.type.inj h1) (by decide)
  have hae:e≠a:=fun z=>by
   obtain⟨o,ho,h1,_⟩:=ht
   have he':s.heap.get? e=_:=he
   rw[z,ho]at he'
   cases he'
   exact absurd (Value.type.inj h1) (by decide)
  refine wpAny_pyNext_enum_itemD (Draws.tupleD (by simp[I.ok.hd hc]) it a hai its.toArray) he ⟨hit,ht⟩ hlt hne (by simp only[List.mem_cons,List.not_mem_nil,or_false,not_or];exact⟨hne,hae⟩) fun x' h' tk hP ho hs' hT hsz hk=>?_
  have ex:x'=u:=by
   rw[List.getElem?_toArray]at hP
   rw[hu]at hP
   exact(Option.some.inj hP).symm
  subst ex
  have I1:Inv X pins σ H {s with heap:=h',toks:=tk+1}:=I.turnedL (ch:=[e,it]) (fun b o hb q=>hk b o (fun z=>hb (by simp[z])) (fun z=>hb (by simp[z])) q) fun b hb=>hf b hb
  refine⟨_,rfl,wpAny_letOwnedTupleGo_enum (s:={s with heap:=h',toks:=tk+1}) ho fun h2 he2 sb=>?_⟩
  have I2:Inv X pins σ H {s with heap:=h2,toks:=tk+1}:=Inv.turnedL (s:={s with heap:=h',toks:=tk+1}) (t':=tk+1) (ch:=[e]) I1 (fun b o hb q=>(sb.2 b (fun z=>hb (by simp[z]))).trans q) fun b hb=>by rw[List.mem_singleton.mp hb];exact fe
  have hn:H s.heap.objs.size=none:=I.hok.fresh (Nat.le_refl _)
  have fT:FpOk X pins H s.heap.objs.size:=I.fpOk (Nat.le_refl _) hn
  have heT:s.heap.objs.size≠e:=Nat.ne_of_gt (Heap.lt_size he)
  have hT2:h2.get? s.heap.objs.size=some {cls:= .type "tuple",data:= .seq #[.int i tk,x']}:=(sb.2 _ heT).trans hT
  refine⟨.ref s.heap.objs.size,upd H s.heap.objs.size (.tup [.int i,x]),I2.track fT I.sz ?_,rfl,⟨_,x,rfl,hn,rfl,fun ys hy=>by rw[I.tuple_inj hy hq];exact hx⟩,⟨⟨x',by simpa using he2⟩,?_⟩,fun b hb=>?_⟩
  ·exact⟨le1000 rfl,[.int i tk,x'],.cons ⟨tk,rfl⟩ (.cons ru .nil),⟨_,hT2,rfl,_,rfl⟩⟩
  ·obtain⟨o,ho',r⟩:=hs'.1
   exact⟨o,(sb.2 _ (Ne.symm hne)).trans ho',r⟩
  ·rcases List.mem_cons.mp hb with rfl|hb
   ·rw[upd_ne (Ne.symm heT)];exact fe.1
   ·rw[List.mem_singleton.mp hb,upd_ne]
    ·exact fi.1
    ·obtain⟨o,ho',_⟩:=hit
     exact Nat.ne_of_lt (Heap.lt_size ho')
 done:=by
  intro X hP hw hK hc i pins s σ H E I hf st hg
  subst hP hw hK
  obtain⟨xs,hq,hx⟩:=hg
  obtain⟨its,rv,p,hz⟩:=I.tuple hq
  obtain⟨⟨old,he⟩,hit⟩:=st
  have ht:s.heap.IsTuple a its.toArray:=p
  have hl:=rv.length
  have hT:s.TypeIs (.ref e) "enumerate":=⟨_,he,rfl⟩
  unfold pyNext
  refine wpAny_bind (wpAny_attempt (wpAny_callSpecial?_slot (name:=Str.ofString "__next__") hT F.slot_enumerate_next
   (wpAny_call_entry F.slot_enumerate_next hT F.entry_enumerate_next ?_ (F.args_enumerate_next_1 _))))
  show wpAny _ _ (field (.ref e) 2>>=_) _ _ _
  refine wpAny_bind (wpAny_field he rfl (x:= .ref it) rfl ?_)
  refine wpAny_bind (nextOf_tuple_end (by simp[I.ok.hd hc]) hit ht (by simp;omega) fun h' x he' hx'=>?_)
  obtain⟨o,ho,hc'⟩:=hx'
  refine wpAny_bind (wpAny_isInstance (T:="StopIteration") (b:=true) ⟨o,ho,hc'⟩ isSubtype_stop ?_)
  exact wpAny_pure ⟨rfl,I.turnedL (t':=s.toks) (ch:=[it]) (fun b o hb q=>he' b o (fun z=>hb (by simp[z])) q) fun b hb=>by rw[List.mem_singleton.mp hb];exact hf it (by simp)⟩
 self:=fun _ _ _ _ _ st h=>by
  obtain⟨⟨old,he⟩,_⟩:=st
  exact wpAny_pyIter_enum he h
def iEnum(K:PySem.W.Frag)(ta:TA):TI:=fun σ H R=>ta σ H fun vs H1=>∃a,vs=[.ref a]/\(∃xs,SqT K H1 a xs)/\R (Ite K a) H1
theorem boot_enum:bootBuiltins "enumerate"=some (.type "enumerate"):=by decide+kernel
theorem pi_enum{X:Cx}{elts:List Expr}{x1:Nat}{tpos:Pos}{a:Expr}{ta:TA}{p pos:Pos}(hg:Gl X "enumerate")(hm:X.mg "enumerate"=none)(ha:PA X [a] ta)(hpl:plainE a=true):PI X (.Tuple elts x1 tpos) (.Call (.Name "enumerate" p) [a] [] pos) (iEnum X.K ta):=by
 intro pins s σ H R I h
 refine Call_ (ld_blt I hg hm boot_enum (PyProof.Rows.callWith_type1 (thn (ha pos pins s σ H _ I h) fun us s1⟨vs,H1,I1,r1,q1⟩=>?_) (star_cons hpl) rfl))
 obtain⟨b,e,⟨xs,hq⟩,q⟩:=q1
 subst e
 obtain⟨u,rfl,ru⟩:=vals1 r1
 cases(show u=Value.ref b from ru)
 obtain⟨its,rv,pt,hz⟩:=I1.tuple hq
 refine call_enumerate_tuple (show s1.heap.IsTuple b its.toArray from pt) fun h' he hi hsz hk=>?_
 have I2:Inv X pins σ H1 {s1 with heap:=h'}:=I1.kept (t':=s1.toks) hk
 refine wpAny_pyIter_enum (s:={s1 with heap:=h'}) he ?_
 refine⟨s1.heap.objs.size+1,[s1.heap.objs.size+1,s1.heap.objs.size],_,_,H1,rfl,I2,turn_enum b _ _ (Nat.succ_ne_self _),⟨⟨.none,he⟩,hi⟩,fun c hc=>?_,q⟩
 rcases List.mem_cons.mp hc with rfl|hc
 ·exact I1.fpOk (Nat.le_succ _) (I1.hok.fresh (Nat.le_succ _))
 ·rw[List.mem_singleton.mp hc]
  exact I1.fpOk (Nat.le_refl _) (I1.hok.fresh (Nat.le_refl _))
end L2
namespace SetT
open PySem PySem.SetTable
def adv(mask:Nat)(p:Probe):Probe:=
 if p.more>0 then{p with j:=p.j+1,more:=p.more-1}else
 {p with j:=(leap mask p.i p.perturb).1,more:=runEnd mask (leap mask p.i p.perturb).1-(leap mask p.i p.perturb).1,i:=(leap mask p.i p.perturb).1,perturb:=(leap mask p.i p.perturb).2}
theorem adv_eq(t:SetTable)(p:Probe):t.advance p=adv t.mask p:=by
 unfold SetTable.advance adv
 split<;>rfl
def st0(mask:Nat)(b:Nat):Probe:={j:=b%(mask+1),more:=runEnd mask (b%(mask+1))-b%(mask+1),i:=b%(mask+1),perturb:=b,dummy:=none}
def stk(mask b:Nat):Nat->Probe
 |0=>st0 mask b
 |k+1=>adv mask (stk mask b k)
theorem stk_dummy(mask b:Nat):∀k,(stk mask b k).dummy=none
 |0=>rfl
 |k+1=>by
  have ih:=stk_dummy mask b k
  show(adv mask (stk mask b k)).dummy=none
  unfold adv
  split<;>exact ih
def pos(mask b k:Nat):Nat:=(stk mask b k).j
def rs(mask b:Nat):Nat->Nat×Nat
 |0=>(b%(mask+1),b)
 |n+1=>leap mask (rs mask b n).1 (rs mask b n).2
theorem more_le(mask i:Nat):runEnd mask i-i<=9:=by unfold runEnd;split<;>omega
theorem stk_run(mask b:Nat){k n:Nat}(h:stk mask b k={j:=(rs mask b n).1,more:=runEnd mask (rs mask b n).1-(rs mask b n).1,i:=(rs mask b n).1,perturb:=(rs mask b n).2,dummy:=none}):
  ∀m,m<=runEnd mask (rs mask b n).1-(rs mask b n).1->stk mask b (k+m)={j:=(rs mask b n).1+m,more:=runEnd mask (rs mask b n).1-(rs mask b n).1-m,i:=(rs mask b n).1,perturb:=(rs mask b n).2,dummy:=none}
 |0,_=>by rw[Nat.add_zero,h];rfl
 |m+1,hm=>by
  have ih:=stk_run mask b h m (by omega)
  show adv mask (stk mask b (k+m))=_
  rw[ih]
  unfold adv
  rw[if_pos (by show runEnd mask (rs mask b n).1-(rs mask b n).1-m>0;omega)]
  simp only[Probe.mk.injEq,and_true,true_and]
  omega
theorem run_at(mask b:Nat):∀n,∃k,k<=10*n/\stk mask b k={j:=(rs mask b n).1,more:=runEnd mask (rs mask b n).1-(rs mask b n).1,i:=(rs mask b n).1,perturb:=(rs mask b n).2,dummy:=none}
 |0=>⟨0,Nat.le_refl _,rfl⟩
 |n+1=>by
  obtain⟨k,hk,e⟩:=run_at mask b n
  have m9:=more_le mask (rs mask b n).1
  have e2:=stk_run mask b e (runEnd mask (rs mask b n).1-(rs mask b n).1) (Nat.le_refl _)
  refine⟨k+(runEnd mask (rs mask b n).1-(rs mask b n).1)+1,by omega,?_⟩
  show adv mask (stk mask b (k+(runEnd mask (rs mask b n).1-(rs mask b n).1)))=_
  rw[e2]
  unfold adv
  rw[if_neg (by show¬runEnd mask (rs mask b n).1-(rs mask b n).1-(runEnd mask (rs mask b n).1-(rs mask b n).1)>0;omega)]
  rfl
theorem rs_pert(mask b:Nat):∀n,(rs mask b n).2=b/32^n
 |0=>by show b=b/32^0;rw[Nat.pow_zero,Nat.div_one]
 |n+1=>by
  show(rs mask b n).2/32=b/32^(n+1)
  rw[rs_pert mask b n,Nat.div_div_eq_div_mul,Nat.pow_succ]
theorem rs_lt(mask b:Nat):∀n,(rs mask b n).1<mask+1
 |0=>Nat.mod_lt _ (Nat.succ_pos _)
 |n+1=>Nat.mod_lt _ (Nat.succ_pos _)
def fL(mask x:Nat):Nat:=(x*5+1)%(mask+1)
def itF(mask x:Nat):Nat->Nat
 |0=>x
 |n+1=>fL mask (itF mask x n)
theorem rs_late(mask b:Nat)(hb:b<2^64):∀r,(rs mask b (12+r)).1=itF mask (rs mask b 12).1 r
 |0=>rfl
 |r+1=>by
  show((rs mask b (12+r)).1*5+1+(rs mask b (12+r)).2/32)%(mask+1)=fL mask (itF mask (rs mask b 12).1 r)
  have hp:(rs mask b (12+r)).2/32=0:=by
   rw[rs_pert,Nat.div_div_eq_div_mul]
   refine Nat.div_eq_of_lt (Nat.lt_of_lt_of_le hb ?_)
   have e:32^(12+r)*32=2^64*(2*32^r):=by
    rw[Nat.pow_add,show(32:Nat)^12=2^60 from rfl,show(2:Nat)^64=2^60*16 from rfl,Nat.mul_right_comm,Nat.mul_assoc (2^60) 16,<-Nat.mul_assoc 16 2,Nat.mul_assoc (2^60) 32]
   rw[e]
   refine Nat.le_mul_of_pos_right _ ?_
   have:=Nat.pow_pos (n:=r) (show 0<32 by decide)
   omega
  rw[hp,rs_late mask b hb r]
  rfl
def orbit(mask x:Nat):Nat->List Nat
 |0=>[]
 |n+1=>x::orbit mask (fL mask x) n
theorem itF_succ(mask x:Nat):∀n,itF mask (fL mask x) n=itF mask x (n+1)
 |0=>rfl
 |n+1=>by show fL mask (itF mask (fL mask x) n)=fL mask (itF mask x (n+1));rw[itF_succ mask x n]
theorem mem_orbit(mask:Nat):∀(n x z:Nat),z∈orbit mask x n->∃r,r<n/\itF mask x r=z
 |0,_,_,h=>nomatch h
 |n+1,x,z,h=>by
  rcases List.mem_cons.mp h with e|h
  ·exact⟨0,Nat.succ_pos _,e.symm⟩
  ·obtain⟨r,hr,e⟩:=mem_orbit mask n (fL mask x) z h
   exact⟨r+1,by omega,by rw[<-itF_succ];exact e⟩
def fullB(mask:Nat):Bool:=(List.range (mask+1)).all (fun z=>(orbit mask 0 (mask+1)).contains z)&&(itF mask 0 (mask+1)==0)
theorem itF_add(mask x m:Nat):∀n,itF mask (itF mask x m) n=itF mask x (m+n)
 |0=>rfl
 |n+1=>by show fL mask (itF mask (itF mask x m) n)=fL mask (itF mask x (m+n));rw[itF_add mask x m n]
theorem full_of{mask:Nat}(h:fullB mask=true){x z:Nat}(hx:x<mask+1)(hz:z<mask+1):∃r,r<mask+1/\itF mask x r=z:=by
 unfold fullB at h
 rw[Bool.and_eq_true]at h
 obtain⟨h1,h2⟩:=h
 have h2:itF mask 0 (mask+1)=0:=beq_iff_eq.mp h2
 have all:=fun y(hy:y<mask+1)=>mem_orbit mask (mask+1) 0 y (List.contains_iff_mem.mp (List.all_eq_true.mp h1 y (List.mem_range.mpr hy)))
 obtain⟨a,ha,ea⟩:=all x hx
 obtain⟨c,hc,ec⟩:=all z hz
 by_cases hac:a<=c
 ·refine⟨c-a,by omega,?_⟩
  rw[<-ea,itF_add,show a+(c-a)=c by omega]
  exact ec
 ·refine⟨mask+1-a+c,by omega,?_⟩
  rw[<-ea,itF_add,show a+(mask+1-a+c)=mask+1+c by omega,<-itF_add,h2]
  exact ec
theorem reach{mask b z:Nat}(hf:fullB mask=true)(hb:b<2^64)(hz:z<mask+1):∃n,n<=12+mask/\(rs mask b n).1=z:=by
 obtain⟨r,hr,e⟩:=full_of hf (rs_lt mask b 12) hz
 exact⟨12+r,by omega,by rw[rs_late mask b hb];exact e⟩
theorem reachP{mask b z:Nat}(hf:fullB mask=true)(hb:b<2^64)(hz:z<mask+1):∃k,k<10*turns mask/\pos mask b k=z:=by
 obtain⟨n,hn,e⟩:=reach hf hb hz
 obtain⟨k,hk,e2⟩:=run_at mask b n
 refine⟨k,by unfold turns;omega,?_⟩
 unfold pos
 rw[e2]
 exact e
theorem full7:fullB 7=true:=by decide+kernel
theorem full31:fullB 31=true:=by decide+kernel
theorem full127:fullB 127=true:=by decide+kernel
theorem full511:fullB 511=true:=by decide+kernel
theorem bits_lt(h:Int):bits h<2^64:=by
 unfold bits
 have h1:=Int.emod_nonneg h (show(2^64:Int)≠0 by decide)
 have h2:=Int.emod_lt_of_pos h (show(0:Int)<2^64 by decide)
 omega
def Rise(xs:Array Nat):Prop:=∀i j,i<j->j<xs.size->xs.getD i 0<xs.getD j 0
theorem below_go{xs:Array Nat}{j:Nat}(hr:Rise xs):∀(fuel lo hi:Nat),hi-lo<=fuel->lo<=hi->hi<=xs.size->(∀i,i<lo->xs.getD i 0<j)->(∀i,hi<=i->i<xs.size->j<=xs.getD i 0)->
  ∀r,below.go xs j fuel lo hi=r->r<=xs.size/\(∀i,i<r->xs.getD i 0<j)/\(∀i,r<=i->i<xs.size->j<=xs.getD i 0)
 |0,lo,hi,h1,h2,h3,a,b,r,e=>by
  have e':lo=r:=e
  subst e'
  exact⟨by omega,a,fun i hi'=>b i (by omega)⟩
 |fuel+1,lo,hi,h1,h2,h3,a,b,r,e=>by
  unfold below.go at e
  by_cases hlt:lo<hi
  ·rw[if_pos hlt]at e
   have hmid:(lo+hi)/2<xs.size:=by omega
   have gd:xs.getD ((lo+hi)/2) j=xs.getD ((lo+hi)/2) 0:=by
    simp[Array.getD,hmid]
   simp only[gd]at e
   by_cases hc:xs.getD ((lo+hi)/2) 0<j
   ·rw[if_pos hc]at e
    refine below_go hr fuel ((lo+hi)/2+1) hi (by omega) (by omega) h3 (fun i hi'=>?_) b r e
    rcases Nat.lt_or_ge i ((lo+hi)/2)with z|z
    ·exact Nat.lt_trans (hr i _ z hmid) hc
    ·have:i=(lo+hi)/2:=by omega
     rw[this];exact hc
   ·rw[if_neg hc]at e
    refine below_go hr fuel lo ((lo+hi)/2) (by omega) (by omega) (by omega) a (fun i hi' hs=>?_) r e
    rcases Nat.lt_or_ge ((lo+hi)/2) i with z|z
    ·exact Nat.le_trans (Nat.le_of_not_lt hc) (Nat.le_of_lt (hr _ i z hs))
    ·have:i=(lo+hi)/2:=by omega
     rw[this];exact Nat.le_of_not_lt hc
  ·rw[if_neg hlt]at e
   subst e
   exact⟨by omega,a,fun i hi'=>b i (by omega)⟩
theorem below_spec{xs:Array Nat}(hr:Rise xs)(j:Nat):below xs j<=xs.size/\(∀i,i<below xs j->xs.getD i 0<j)/\(∀i,below xs j<=i->i<xs.size->j<=xs.getD i 0):=
 below_go hr xs.size 0 xs.size (by omega) (Nat.zero_le _) (Nat.le_refl _) (fun i h=>absurd h (Nat.not_lt_zero _)) (fun i h1 h2=>absurd h2 (by omega)) _ rfl
theorem getD_of{xs:Array Nat}{i v:Nat}(h:xs[i]?=some v):i<xs.size/\xs.getD i 0=v:=by
 obtain⟨h1,h2⟩:=Array.getElem?_eq_some_iff.mp h
 exact⟨h1,by simp[Array.getD,h1,h2]⟩
theorem of_getD{xs:Array Nat}{i:Nat}(h:i<xs.size):xs[i]?=some (xs.getD i 0):=by simp[Array.getD,h]
theorem below_at{xs:Array Nat}(hr:Rise xs){i j:Nat}(h:xs[i]?=some j):below xs j=i:=by
 obtain⟨b1,b2,b3⟩:=below_spec hr j
 obtain⟨h1,h2⟩:=getD_of h
 rcases Nat.lt_trichotomy (below xs j) i with z|z|z
 ·have h3:=b3 (below xs j) (Nat.le_refl _) (by omega)
  have h4:=hr _ _ z h1
  omega
 ·exact z
 ·have:=b2 i z
  omega
theorem slot_live{t:SetTable}(hr:Rise t.place){i j:Nat}(h:t.place[i]?=some j):t.slot j= .live i:=by
 unfold SetTable.slot
 rw[below_at hr h]
 simp[h]
theorem slot_cases(t:SetTable)(hd:t.dummies=#[])(j:Nat):(∃i,t.slot j= .live i/\t.place[i]?=some j)\/t.slot j= .empty:=by
 unfold SetTable.slot
 by_cases h:(t.place[below t.place j]?==some j)=true
 ·refine .inl ⟨below t.place j,?_,beq_iff_eq.mp h⟩
  simp[h]
 ·refine .inr ?_
  have e:has t.dummies j=false:=by rw[hd];rfl
  simp[h,e]
theorem slot_empty{t:SetTable}(hr:Rise t.place){j:Nat}(h:t.slot j= .empty):∀i:Nat,t.place[i]?≠some j:=fun i z=>by
 rw[slot_live hr z]at h
 cases h
structure SetOk(t:SetTable)(es:Array (Int×Value)):Prop where
 full:fullB t.mask=true
 odd:t.mask%2=1
 nod:t.dummies=#[]
 rise:Rise t.place
 le:∀(i v:Nat),t.place[i]?=some v->v<t.mask+1
 size:t.place.size=es.size
 path:∀(i v:Nat)(e:Int×Value),t.place[i]?=some v->es[i]?=some e->∃k,pos t.mask (bits e.1) k=v/\∀k',k'<k->∃i':Nat,t.place[i']?=some (pos t.mask (bits e.1) k')
theorem some_free{xs:Array Nat}(hr:Rise xs){m:Nat}(hs:xs.size<m):∃z,z<m/\∀i:Nat,xs[i]?≠some z:=by
 refine Classical.byContradiction fun hno=>?_
 have all:∀z,z<m->∃i:Nat,xs[i]?=some z:=fun z hz=>Classical.byContradiction fun hn=>hno ⟨z,hz,fun i e=>hn ⟨i,e⟩⟩
 have ge:∀z,z<m->∃i:Nat,xs[i]?=some z/\z<=i:=by
  intro z
  induction z with
  |zero=>intro h;obtain⟨i,e⟩:=all 0 h;exact⟨i,e,Nat.zero_le _⟩
  |succ z ih=>
   intro h
   obtain⟨i,e,hi⟩:=ih (by omega)
   obtain⟨j,e'⟩:=all (z+1) h
   refine⟨j,e',?_⟩
   obtain⟨a1,a2⟩:=getD_of e
   obtain⟨b1,b2⟩:=getD_of e'
   rcases Nat.lt_trichotomy i j with q|q|q
   ·omega
   ·subst q;omega
   ·have:=hr j i q a1;omega
 by_cases h0:m=0
 ·omega
 ·obtain⟨i,e,hi⟩:=ge (m-1) (by omega)
  have:=(getD_of e).1
  omega
theorem least{P:Nat->Prop}:∀n,P n->∃k,k<=n/\P k/\∀k',k'<k->¬P k':=by
 intro n
 induction n using Nat.strongRecOn with
 |_ n ih=>
  intro hn
  by_cases h:∃k,k<n/\P k
  ·obtain⟨k,hk,pk⟩:=h
   obtain⟨k2,h1,h2,h3⟩:=ih k hk pk
   exact⟨k2,by omega,h2,h3⟩
  ·exact⟨n,Nat.le_refl _,hn,fun k' hk' pk'=>h ⟨k',hk',pk'⟩⟩
variable{t:SetTable}{es:Array (Int×Value)}
theorem first_empty(ok:SetOk t es)(room:es.size<t.mask+1)(b:Nat)(hb:b<2^64):
  ∃k0,k0<10*turns t.mask/\t.slot (pos t.mask b k0)= .empty/\∀k',k'<k0->∃i:Nat,t.slot (pos t.mask b k')= .live i/\t.place[i]?=some (pos t.mask b k'):=by
 obtain⟨z,hz,hfree⟩:=some_free ok.rise (show t.place.size<t.mask+1 by rw[ok.size];exact room)
 obtain⟨k,hk,e⟩:=reachP ok.full hb hz
 have hemp:t.slot (pos t.mask b k)= .empty:=by
  rcases slot_cases t ok.nod (pos t.mask b k)with⟨i,_,h⟩|h
  ·rw[e]at h;exact absurd h (hfree i)
  ·exact h
 obtain⟨k0,h1,h2,h3⟩:=least (P:=fun k=>t.slot (pos t.mask b k)= .empty) k hemp
 refine⟨k0,by omega,h2,fun k' hk'=>?_⟩
 rcases slot_cases t ok.nod (pos t.mask b k')with h|h
 ·exact h
 ·exact absurd h (h3 k' hk')
theorem go_spec(ok:SetOk t es){b k0:Nat}{f:Nat->Int}{h:Int}(he:t.slot (pos t.mask b k0)= .empty)(hl:∀k',k'<k0->∃i:Nat,t.slot (pos t.mask b k')= .live i/\t.place[i]?=some (pos t.mask b k')):
  ∀(fuel k:Nat),k<=k0->k0-k<fuel->
   (probe.go t f h fuel (stk t.mask b k)=some (.empty (pos t.mask b k0) none)/\∀k',k<=k'->k'<k0->∃i:Nat,t.place[i]?=some (pos t.mask b k')/\f i≠h)\/
   (∃k1 i,probe.go t f h fuel (stk t.mask b k)=some (.candidate (pos t.mask b k1) i (stk t.mask b (k1+1)))/\k<=k1/\k1<k0/\t.place[i]?=some (pos t.mask b k1)/\f i=h/\t.slot (pos t.mask b k1)= .live i/\
    ∀k',k<=k'->k'<k1->∃i:Nat,t.place[i]?=some (pos t.mask b k')/\f i≠h)
 |0,k,_,hf=>absurd hf (Nat.not_lt_zero _)
 |fuel+1,k,hk,hf=>by
  by_cases hk0:k=k0
  ·subst hk0
   refine .inl ⟨?_,fun k' h1 h2=>absurd h1 (by omega)⟩
   unfold probe.go
   have e:t.slot (stk t.mask b k).j= .empty:=he
   rw[e]
   show some (Met.empty (stk t.mask b k).j (stk t.mask b k).dummy)=_
   rw[stk_dummy]
   rfl
  ·obtain⟨i,hi,hp⟩:=hl k (by omega)
   have e:t.slot (stk t.mask b k).j= .live i:=hi
   by_cases hh:f i=h
   ·refine .inr ⟨k,i,?_,Nat.le_refl _,by omega,hp,hh,hi,fun k' h1 h2=>absurd h1 (by omega)⟩
    unfold probe.go
    rw[e]
    show(if f i==h then some (Met.candidate (stk t.mask b k).j i (t.advance (stk t.mask b k)))else _)=_
    rw[if_pos (beq_iff_eq.mpr hh),adv_eq]
    rfl
   ·have step:probe.go t f h (fuel+1) (stk t.mask b k)=probe.go t f h fuel (stk t.mask b (k+1)):=by
     conv=>lhs;unfold probe.go
     rw[e]
     show(if f i==h then _ else probe.go t f h fuel (t.advance (stk t.mask b k)))=_
     rw[if_neg (fun z=>hh (beq_iff_eq.mp z)),adv_eq]
     rfl
    rw[step]
    rcases go_spec ok he hl fuel (k+1) (by omega) (by omega)with⟨h1,h2⟩|⟨k1,i1,h1,h2,h3,h4,h5,h6,h7⟩
    ·refine .inl ⟨h1,fun k' a1 a2=>?_⟩
     by_cases q:k'=k
     ·subst q;exact⟨i,hp,hh⟩
     ·exact h2 k' (by omega) a2
    ·refine .inr ⟨k1,i1,h1,by omega,h3,h4,h5,h6,fun k' a1 a2=>?_⟩
     by_cases q:k'=k
     ·subst q;exact⟨i,hp,hh⟩
     ·exact h7 k' (by omega) a2
theorem insertAt_list{α:Type}(xs:Array α)(p:Nat)(x:α):(insertAt xs p x).toList=xs.toList.take p++x::xs.toList.drop p:=by
 unfold insertAt
 simp
 exact List.take_of_length_le (by simp)
theorem insertAt_get{α:Type}(xs:Array α)(p:Nat)(x:α)(hp:p<=xs.size)(i:Nat):(insertAt xs p x)[i]?=if i<p then xs[i]? else if i=p then some x else xs[i-1]?:=by
 rw[<-Array.getElem?_toList,insertAt_list]
 have hl:(xs.toList.take p).length=p:=by rw[List.length_take,Array.length_toList];omega
 by_cases h1:i<p
 ·rw[if_pos h1,List.getElem?_append_left (by omega),List.getElem?_take_of_lt h1,Array.getElem?_toList]
 ·rw[if_neg h1,List.getElem?_append_right (by omega),hl]
  by_cases h2:i=p
  ·rw[if_pos h2,h2,Nat.sub_self];rfl
  ·rw[if_neg h2]
   obtain⟨d,rfl⟩:∃d,i=p+d+1:=⟨i-p-1,by omega⟩
   rw[show p+d+1-p=d+1 by omega,List.getElem?_cons_succ,List.getElem?_drop,Array.getElem?_toList,show p+d+1-1=p+d by omega]
theorem insertAt_size{α:Type}(xs:Array α)(p:Nat)(x:α)(hp:p<=xs.size):(insertAt xs p x).size=xs.size+1:=by
 rw[<-Array.length_toList,insertAt_list,List.length_append,List.length_cons,List.length_take,List.length_drop,Array.length_toList]
 omega
theorem put_eq(hd:t.dummies=#[])(j:Nat):t.put j=({t with place:=insertAt t.place (below t.place j) j},below t.place j):=by
 unfold SetTable.put
 have e:has t.dummies j=false:=by rw[hd];rfl
 simp[e]
theorem insert_ok(ok:SetOk t es){h:Int}{x:Value}{k0:Nat}(he:t.slot (pos t.mask (bits h) k0)= .empty)(hlt:pos t.mask (bits h) k0<t.mask+1)(hl:∀k',k'<k0->∃i:Nat,t.slot (pos t.mask (bits h) k')= .live i/\t.place[i]?=some (pos t.mask (bits h) k')):
  SetOk {t with place:=insertAt t.place (below t.place (pos t.mask (bits h) k0)) (pos t.mask (bits h) k0)} (insertAt es (below t.place (pos t.mask (bits h) k0)) (h,x)):=by
 obtain⟨b1,b2,b3⟩:=below_spec ok.rise (pos t.mask (bits h) k0)
 have hfree:=slot_empty ok.rise he
 have b1':below t.place (pos t.mask (bits h) k0)<=es.size:=by rw[<-ok.size];exact b1
 generalize hj:pos t.mask (bits h) k0=j at*
 have hgt:∀i,below t.place j<=i->i<t.place.size->j<t.place.getD i 0:=fun i h1 h2=>by
  have h3:=b3 i h1 h2
  have h4:t.place.getD i 0≠j:=fun z=>hfree i (by rw[of_getD h2,z])
  omega
 have old:∀i v:Nat,t.place[i]?=some v->∃i':Nat,(insertAt t.place (below t.place j) j)[i']?=some v:=fun i v hv=>by
  by_cases hi:i<below t.place j
  ·exact⟨i,by rw[insertAt_get _ _ _ b1,if_pos hi];exact hv⟩
  ·exact⟨i+1,by rw[insertAt_get _ _ _ b1,if_neg (by omega),if_neg (by omega)];exact hv⟩
 have gd:∀i,i<(insertAt t.place (below t.place j) j).size->(insertAt t.place (below t.place j) j).getD i 0=if i<below t.place j then t.place.getD i 0 else if i=below t.place j then j else t.place.getD (i-1) 0:=fun i hi=>by
  have e1:=of_getD hi
  rw[insertAt_get _ _ _ b1]at e1
  rw[insertAt_size _ _ _ b1]at hi
  by_cases h1:i<below t.place j
  ·rw[if_pos h1]at e1⊢
   exact(getD_of e1).2.symm
  ·rw[if_neg h1]at e1⊢
   by_cases h2:i=below t.place j
   ·rw[if_pos h2]at e1⊢
    exact(Option.some.inj e1).symm
   ·rw[if_neg h2]at e1⊢
    exact(getD_of e1).2.symm
 refine⟨ok.full,ok.odd,ok.nod,fun i i' hii hi'=>?_,fun i v hv=>?_,?_,fun i v e hv hee=>?_⟩
 ·have hi'':=hi'
  show(insertAt t.place (below t.place j) j).getD i 0<(insertAt t.place (below t.place j) j).getD i' 0
  rw[gd i (Nat.lt_trans hii hi'),gd i' hi']
  have hsz:i'<t.place.size+1:=by rw[<-insertAt_size _ _ j b1];exact hi'
  by_cases h1:i'<below t.place j
  ·rw[if_pos (show i<below t.place j by omega),if_pos h1]
   exact ok.rise i i' hii (by omega)
  ·rw[if_neg h1]
   by_cases h2:i'=below t.place j
   ·rw[if_pos h2,if_pos (show i<below t.place j by omega)]
    exact b2 i (by omega)
   ·rw[if_neg h2]
    by_cases h3:i<below t.place j
    ·rw[if_pos h3]
     have q1:=b2 i h3
     have q2:=hgt (i'-1) (by omega) (by omega)
     omega
    ·rw[if_neg h3]
     by_cases h4:i=below t.place j
     ·rw[if_pos h4]
      exact hgt (i'-1) (by omega) (by omega)
     ·rw[if_neg h4]
      exact ok.rise (i-1) (i'-1) (by omega) (by omega)
 ·have hv':(insertAt t.place (below t.place j) j)[i]?=some v:=hv
  rw[insertAt_get _ _ _ b1]at hv'
  by_cases h1:i<below t.place j
  ·rw[if_pos h1]at hv';exact ok.le i v hv'
  ·rw[if_neg h1]at hv'
   by_cases h2:i=below t.place j
   ·rw[if_pos h2]at hv';cases hv';exact hlt
   ·rw[if_neg h2]at hv';exact ok.le (i-1) v hv'
 ·show(insertAt t.place (below t.place j) j).size=(insertAt es (below t.place j) (h,x)).size
  rw[insertAt_size _ _ _ b1,insertAt_size _ _ _ b1',ok.size]
 ·have hv':(insertAt t.place (below t.place j) j)[i]?=some v:=hv
  rw[insertAt_get _ _ _ b1]at hv'
  rw[insertAt_get _ _ _ b1']at hee
  have goal:∀(i0:Nat),t.place[i0]?=some v->es[i0]?=some e->∃k,pos t.mask (bits e.1) k=v/\∀k',k'<k->∃i':Nat,(insertAt t.place (below t.place j) j)[i']?=some (pos t.mask (bits e.1) k'):=fun i0 q1 q2=>by
   obtain⟨k,hk,hp⟩:=ok.path i0 v e q1 q2
   exact⟨k,hk,fun k' hk'=>let⟨i',q⟩:=hp k' hk';old i' _ q⟩
  by_cases h1:i<below t.place j
  ·rw[if_pos h1]at hv' hee;exact goal i hv' hee
  ·rw[if_neg h1]at hv' hee
   by_cases h2:i=below t.place j
   ·rw[if_pos h2]at hv' hee
    cases hv'
    cases hee
    refine⟨k0,hj,fun k' hk'=>?_⟩
    obtain⟨i',_,q⟩:=hl k' hk'
    exact old i' _ q
   ·rw[if_neg h2]at hv' hee;exact goal (i-1) hv' hee
def Occ(owner:Array (Option Nat))(j:Nat):Prop:=(owner.getD j (some 0)).isNone=false
theorem free_spec{mask b:Nat}{owner:Array (Option Nat)}:∀(fuel n kn:Nat),stk mask b kn={j:=(rs mask b n).1,more:=runEnd mask (rs mask b n).1-(rs mask b n).1,i:=(rs mask b n).1,perturb:=(rs mask b n).2,dummy:=none}->
  (∃n',n<=n'/\n'<n+fuel/\¬Occ owner (rs mask b n').1)->
  ∃k j,layClean.free mask owner fuel (rs mask b n).1 (rs mask b n).2=some j/\kn<=k/\pos mask b k=j/\¬Occ owner j/\∀k',kn<=k'->k'<k->Occ owner (pos mask b k')
 |0,n,kn,_,⟨n',h1,h2,_⟩=>absurd h2 (by omega)
 |fuel+1,n,kn,hk,⟨n',h1,h2,hf⟩=>by
  unfold layClean.free
  have run:=stk_run mask b hk
  have ge:(rs mask b n).1<=runEnd mask (rs mask b n).1:=by unfold runEnd;split<;>omega
  cases hfi:(List.range (runEnd mask (rs mask b n).1+1-(rs mask b n).1)).find? fun k=>(owner.getD ((rs mask b n).1+k) (some 0)).isNone with
  |some m=>
   obtain⟨p1,p2,p3⟩:=List.find?_range_eq_some.mp hfi
   have hm:m<runEnd mask (rs mask b n).1+1-(rs mask b n).1:=by simpa using p2
   refine⟨kn+m,(rs mask b n).1+m,rfl,by omega,?_,?_,fun k' a1 a2=>?_⟩
   ·unfold pos;rw[run m (by omega)]
   ·unfold Occ;rw[p1];simp
   ·obtain⟨d,rfl⟩:∃d,k'=kn+d:=⟨k'-kn,by omega⟩
    have q:=p3 d (by omega)
    unfold pos Occ
    rw[run d (by omega)]
    simpa using q
  |none=>
   have p:=List.find?_range_eq_none.mp hfi
   have occ:∀m,m<runEnd mask (rs mask b n).1+1-(rs mask b n).1->Occ owner ((rs mask b n).1+m):=fun m hm=>by
    have q:=p m hm
    unfold Occ
    simpa using q
   have hne:n≠n':=fun z=>by
    subst z
    exact hf (by simpa using occ 0 (by omega))
   have hk':stk mask b (kn+(runEnd mask (rs mask b n).1-(rs mask b n).1)+1)={j:=(rs mask b (n+1)).1,more:=runEnd mask (rs mask b (n+1)).1-(rs mask b (n+1)).1,i:=(rs mask b (n+1)).1,perturb:=(rs mask b (n+1)).2,dummy:=none}:=by
    show adv mask (stk mask b (kn+(runEnd mask (rs mask b n).1-(rs mask b n).1)))=_
    rw[run _ (Nat.le_refl _)]
    unfold adv
    rw[if_neg (by show¬runEnd mask (rs mask b n).1-(rs mask b n).1-(runEnd mask (rs mask b n).1-(rs mask b n).1)>0;omega)]
    rfl
   obtain⟨k,j,e1,e2,e3,e4,e5⟩:=free_spec fuel (n+1) _ hk' ⟨n',by omega,by omega,hf⟩
   refine⟨k,j,e1,by omega,e3,e4,fun k' a1 a2=>?_⟩
   by_cases q:k'<kn+(runEnd mask (rs mask b n).1-(rs mask b n).1)+1
   ·obtain⟨d,rfl⟩:∃d,k'=kn+d:=⟨k'-kn,by omega⟩
    unfold pos
    rw[run d (by omega)]
    exact occ d (by omega)
   ·exact e5 k' (by omega) a2
structure LayOk(mask:Nat)(hs:List Int)(owner:Array (Option Nat))(k:Nat):Prop where
 size:owner.size=mask+1
 cnt:owner.toList.countP (·.isNone)+k=mask+1
 lt:∀(j m:Nat),owner[j]?=some (some m)->m<k
 has:∀m,m<k->∃j:Nat,owner[j]?=some (some m)
 path:∀(j m:Nat)(h:Int),owner[j]?=some (some m)->hs[m]?=some h->∃kk,pos mask (bits h) kk=j/\∀k',k'<kk->Occ owner (pos mask (bits h) k')
theorem countP_set:∀(l:List (Option Nat))(j m:Nat),l[j]?=some none->(l.set j (some m)).countP (·.isNone)+1=l.countP (·.isNone)
 |[],_,_,h=>by simp at h
 |a::l,0,m,h=>by
  simp at h
  subst h
  simp[List.countP_cons]
 |a::l,j+1,m,h=>by
  have ih:=countP_set l j m (by simpa using h)
  simp only[List.set_cons_succ,List.countP_cons]
  omega
theorem lay_step{mask k:Nat}{hs:List Int}{owner:Array (Option Nat)}{h:Int}(hf:fullB mask=true)(L:LayOk mask hs owner k)(hh:hs[k]?=some h)(room:k<mask+1):
  ∃j,layClean.free mask owner (turns mask) (bits h%(mask+1)) (bits h)=some j/\LayOk mask hs (owner.setIfInBounds j (some k)) (k+1):=by
 have hpos:0<owner.toList.countP (·.isNone):=by have:=L.cnt;omega
 obtain⟨o,ho1,ho2⟩:=List.countP_pos_iff.mp hpos
 obtain⟨z,hz,ez⟩:=List.getElem_of_mem ho1
 have hz':z<owner.size:=by simpa using hz
 have ez':owner[z]?=some none:=by
  rw[<-Array.getElem?_toList,List.getElem?_eq_getElem hz,ez]
  cases o with
  |none=>rfl
  |some _=>cases ho2
 have hnocc:¬Occ owner z:=by
  unfold Occ
  rw[Array.getD_eq_getD_getElem?,ez']
  simp
 obtain⟨n,hn,en⟩:=reach hf (bits_lt h) (show z<mask+1 by rw[<-L.size];exact hz')
 obtain⟨kk,j,e1,_,e3,e4,e5⟩:=free_spec (mask:=mask) (b:=bits h) (owner:=owner) (turns mask) 0 0 rfl ⟨n,Nat.zero_le _,by unfold turns;omega,by rw[en];exact hnocc⟩
 have hj:owner[j]?=some none:=by
  cases q:owner[j]? with
  |none=>
   refine absurd ?_ e4
   unfold Occ
   rw[Array.getD_eq_getD_getElem?,q]
   rfl
  |some o=>
   cases o with
   |none=>rfl
   |some m=>
    refine absurd ?_ e4
    unfold Occ
    rw[Array.getD_eq_getD_getElem?,q]
    rfl
 have hjs:j<owner.size:=(Array.getElem?_eq_some_iff.mp hj).1
 have get:∀i:Nat,(owner.setIfInBounds j (some k))[i]?=if j=i then some (some k)else owner[i]?:=fun i=>by
  rw[Array.getElem?_setIfInBounds]
  by_cases q:j=i
  ·subst q;simp[hjs]
  ·simp[q]
 have occ':∀i,Occ owner i->Occ (owner.setIfInBounds j (some k)) i:=fun i q=>by
  unfold Occ at q⊢
  rw[Array.getD_eq_getD_getElem?]at q⊢
  rw[get]
  by_cases z:j=i
  ·rw[if_pos z];rfl
  ·rw[if_neg z];exact q
 refine⟨j,e1,⟨by rw[Array.size_setIfInBounds];exact L.size,?_,fun i m hm=>?_,fun m hm=>?_,fun i m h' hm hh'=>?_⟩⟩
 ·have c:=countP_set owner.toList j k (by rw[Array.getElem?_toList];exact hj)
  have e:(owner.setIfInBounds j (some k)).toList=owner.toList.set j (some k):=by simp
  rw[e]
  have:=L.cnt
  omega
 ·rw[get]at hm
  by_cases q:j=i
  ·rw[if_pos q]at hm;cases hm;omega
  ·rw[if_neg q]at hm;have:=L.lt i m hm;omega
 ·by_cases q:m=k
  ·exact⟨j,by rw[get,if_pos rfl,q]⟩
  ·obtain⟨i,hi⟩:=L.has m (by omega)
   refine⟨i,?_⟩
   rw[get,if_neg (fun z=>by subst z;rw[hj]at hi;cases hi)]
   exact hi
 ·rw[get]at hm
  by_cases q:j=i
  ·rw[if_pos q]at hm
   cases hm
   rw[hh]at hh'
   cases hh'
   exact⟨kk,by rw[e3,q],fun k' hk'=>occ' _ (e5 k' (Nat.zero_le _) hk')⟩
  ·rw[if_neg q]at hm
   obtain⟨k2,a1,a2⟩:=L.path i m h' hm hh'
   exact⟨k2,a1,fun k' hk'=>occ' _ (a2 k' hk')⟩
theorem lay_fold{mask:Nat}(hf:fullB mask=true)(hs:List Int):∀(l:List Int)(owner:Array (Option Nat))(k:Nat),hs.drop k=l->k+l.length<=mask->LayOk mask hs owner k->
  ∃owner',l.foldl (fun acc h=>do
   let(owner,k)<-acc
   let j<-layClean.free mask owner (turns mask) (bits h%(mask+1)) (bits h)
   pure (owner.setIfInBounds j (some k),k+1)) (some (owner,k))=some (owner',k+l.length)/\LayOk mask hs owner' (k+l.length)
 |[],owner,k,_,_,L=>⟨owner,rfl,L⟩
 |h::l,owner,k,hd,hl,L=>by
  rw[List.length_cons]at hl
  have hk:hs[k]?=some h:=by
   have:=congrArg (fun x=>x[0]?) hd
   simpa using this
  obtain⟨j,e1,L'⟩:=lay_step hf L hk (by omega)
  have hd':hs.drop (k+1)=l:=by
   have:=congrArg List.tail hd
   simpa using this
  obtain⟨o2,e2,L2⟩:=lay_fold hf hs l (owner.setIfInBounds j (some k)) (k+1) hd' (by omega) L'
  refine⟨o2,?_,by rw[List.length_cons,show k+(l.length+1)=k+1+l.length by omega];exact L2⟩
  rw[List.foldl_cons,List.length_cons,show k+(l.length+1)=k+1+l.length by omega,<-e2]
  congr 1
  show(Option.bind (layClean.free mask owner (turns mask) (bits h%(mask+1)) (bits h)) fun j=>some (owner.setIfInBounds j (some k),k+1))=_
  rw[e1]
  rfl
theorem lay_ok{mask:Nat}(hf:fullB mask=true)(hs:Array Int)(hl:hs.size<=mask):∃owner,layClean mask hs=some owner/\LayOk mask hs.toList owner hs.size:=by
 have L0:LayOk mask hs.toList (Array.replicate (mask+1) none) 0:=by
  refine⟨by simp,by simp[List.countP_replicate],fun j m h=>?_,fun m h=>absurd h (Nat.not_lt_zero _),fun j m h q=>?_⟩
  ·rw[Array.getElem?_replicate]at h
   split at h<;>cases h
  ·rw[Array.getElem?_replicate]at q
   split at q<;>cases q
 obtain⟨o,e,L⟩:=lay_fold hf hs.toList hs.toList _ 0 rfl (by simpa using hl) L0
 refine⟨o,?_,by simpa using L⟩
 unfold layClean
 rw[<-Array.foldl_toList,e]
 rfl
def liveL(mask:Nat)(owner:Array (Option Nat)):List (Nat×Nat):=(List.range (mask+1)).filterMap fun j=>(owner.getD j none).map (j,·)
theorem mem_live{mask:Nat}{owner:Array (Option Nat)}{p:Nat×Nat}:p∈liveL mask owner↔p.1<mask+1/\owner[p.1]?=some (some p.2):=by
 unfold liveL
 rw[List.mem_filterMap]
 constructor
 ·rintro⟨j,hj,e⟩
  rw[Array.getD_eq_getD_getElem?]at e
  cases q:owner[j]? with
  |none=>rw[q]at e;cases e
  |some o=>
   rw[q]at e
   cases o with
   |none=>cases e
   |some m=>
    have e':(j,m)=p:=Option.some.inj e
    subst e'
    exact⟨List.mem_range.mp hj,q⟩
 ·rintro⟨h1,h2⟩
  refine⟨p.1,List.mem_range.mpr h1,?_⟩
  rw[Array.getD_eq_getD_getElem?,h2]
  rfl
theorem live_rise(mask:Nat)(owner:Array (Option Nat)):(liveL mask owner).Pairwise fun p q=>p.1<q.1:=by
 unfold liveL
 rw[List.pairwise_filterMap]
 refine List.Pairwise.imp (fun{a b} hab=>?_) List.pairwise_lt_range
 intro p hp q hq
 have e1:p.1=a:=by
  cases z:owner.getD a none with
  |none=>rw[z]at hp;cases hp
  |some m=>rw[z]at hp;have:=Option.some.inj hp;rw[<-this]
 have e2:q.1=b:=by
  cases z:owner.getD b none with
  |none=>rw[z]at hq;cases hq
  |some m=>rw[z]at hq;have:=Option.some.inj hq;rw[<-this]
 rw[e1,e2]
 exact hab
theorem countP_not(l:List (Option Nat)):l.countP (·.isNone)+l.countP (·.isSome)=l.length:=by
 induction l with
 |nil=>rfl
 |cons a l ih=>
  simp only[List.countP_cons,List.length_cons]
  cases a with
  |none=>simp;omega
  |some m=>simp;omega
theorem fm_len(f:Nat->Option Nat):∀l:List Nat,(l.filterMap fun j=>(f j).map (j,·)).length=(l.map f).countP (·.isSome)
 |[]=>rfl
 |a::l=>by
  have ih:=fm_len f l
  rw[List.filterMap_cons,List.map_cons,List.countP_cons]
  cases q:f a with
  |none=>simpa using ih
  |some m=>simpa using ih
theorem live_len{mask k:Nat}{hs:List Int}{owner:Array (Option Nat)}(L:LayOk mask hs owner k):(liveL mask owner).length=k:=by
 unfold liveL
 rw[fm_len]
 have e:(List.range (mask+1)).map (fun j=>owner.getD j none)=owner.toList:=by
  refine List.ext_getElem? fun i=>?_
  rw[List.getElem?_map]
  by_cases hi:i<mask+1
  ·rw[List.getElem?_range hi]
   have hi':i<owner.size:=by rw[L.size];exact hi
   simp[Array.getD,hi']
  ·have h1:(List.range (mask+1))[i]?=none:=List.getElem?_eq_none (by rw[List.length_range];omega)
   have h2:owner.toList[i]?=none:=List.getElem?_eq_none (by rw[Array.length_toList,L.size];omega)
   rw[h1,h2]
   rfl
 rw[e]
 have c:=countP_not owner.toList
 have:=L.cnt
 rw[Array.length_toList,L.size]at c
 omega
theorem fm_all{es:Array (Int×Value)}:∀l:List Nat,(∀m∈l,m<es.size)->∀i:Nat,(l.filterMap (es[·]?))[i]?=(l[i]?).bind (es[·]?)
 |[],_,i=>by simp
 |m::l,h,i=>by
  have hm:=h m (.head _)
  have ih:=fm_all l fun x hx=>h x (.tail _ hx)
  rw[List.filterMap_cons]
  have e:es[m]?=some es[m]:=by simp[hm]
  rw[e]
  cases i with
  |zero=>simp[e]
  |succ i=>simpa using ih i
theorem fm_size{es:Array (Int×Value)}:∀l:List Nat,(∀m∈l,m<es.size)->(l.filterMap (es[·]?)).length=l.length
 |[],_=>rfl
 |m::l,h=>by
  have hm:=h m (.head _)
  have ih:=fm_size l fun x hx=>h x (.tail _ hx)
  rw[List.filterMap_cons]
  have e:es[m]?=some es[m]:=by simp[hm]
  rw[e]
  simp[ih]
theorem stk_in(mask b:Nat):∀k,(stk mask b k).j+(stk mask b k).more<=mask/\(stk mask b k).i<mask+1
 |0=>by
  have h:=Nat.mod_lt b (show 0<mask+1 by omega)
  refine⟨?_,h⟩
  show b%(mask+1)+(runEnd mask (b%(mask+1))-b%(mask+1))<=mask
  unfold runEnd
  split<;>omega
 |k+1=>by
  obtain⟨h1,h2⟩:=stk_in mask b k
  show(adv mask (stk mask b k)).j+(adv mask (stk mask b k)).more<=mask/\(adv mask (stk mask b k)).i<mask+1
  unfold adv
  split
  ·exact⟨by show(stk mask b k).j+1+((stk mask b k).more-1)<=mask;omega,h2⟩
  ·have h:=Nat.mod_lt ((stk mask b k).i*5+1+(stk mask b k).perturb/32) (show 0<mask+1 by omega)
   refine⟨?_,h⟩
   show(leap mask (stk mask b k).i (stk mask b k).perturb).1+(runEnd mask (leap mask (stk mask b k).i (stk mask b k).perturb).1-(leap mask (stk mask b k).i (stk mask b k).perturb).1)<=mask
   have h':(leap mask (stk mask b k).i (stk mask b k).perturb).1<mask+1:=h
   unfold runEnd
   split<;>omega
theorem posLt(mask b k:Nat):pos mask b k<mask+1:=by
 have:=(stk_in mask b k).1
 unfold pos
 omega
theorem relaid_ok{t:SetTable}{es:Array (Int×Value)}{wanted:Nat}(hf:fullB (sizeAbove wanted-1)=true)(ho:(sizeAbove wanted-1)%2=1)(hl:es.size<=sizeAbove wanted-1):
  ∃t' order,t.relaid (es.map (·.1)) wanted=some (t',order)/\(order.filterMap (es[·]?)).size=es.size/\SetOk t' (order.filterMap (es[·]?))/\t'.mask=sizeAbove wanted-1/\t'.plain=t.plain/\t'.led=t.led/\(∀e,e∈(order.filterMap (es[·]?)).toList↔e∈es.toList):=by
 generalize hmask:sizeAbove wanted-1=mask at*
 obtain⟨owner,e0,L⟩:=lay_ok hf (es.map (·.1)) (by rw[Array.size_map];exact hl)
 rw[Array.size_map]at L
 have hlen:=live_len L
 have mlt:∀m∈(liveL mask owner).map (·.2),m<es.size:=fun m hm=>by
  obtain⟨p,hp,rfl⟩:=List.mem_map.mp hm
  exact L.lt _ _ (mem_live.mp hp).2
 refine⟨{mask:=mask,place:=((liveL mask owner).map (·.1)).toArray,dummies:=#[],finger:=t.finger,led:=t.led,moves:=t.movedTo mask,plain:=t.plain},((liveL mask owner).map (·.2)).toArray,?_,?_,?_,rfl,rfl,rfl,fun e=>?_⟩
 ·unfold SetTable.relaid SetTable.laid
  rw[hmask,e0]
  rfl
 ·rw[List.filterMap_toArray,List.size_toArray,fm_size _ mlt,List.length_map,hlen]
 ·have pl:∀i:Nat,(((liveL mask owner).map (·.1)).toArray)[i]?=((liveL mask owner)[i]?).map (·.1):=fun i=>by rw[List.getElem?_toArray,List.getElem?_map]
  have inPlace:∀j,Occ owner j->j<mask+1->∃i:Nat,(((liveL mask owner).map (·.1)).toArray)[i]?=some j:=fun j hj hjm=>by
   have hs:j<owner.size:=by rw[L.size];exact hjm
   obtain⟨m,hm⟩:∃m,owner[j]?=some (some m):=by
    unfold Occ at hj
    rw[Array.getD_eq_getD_getElem?]at hj
    cases q:owner[j]? with
    |none=>simp[hs]at q
    |some o=>
     cases o with
     |none=>rw[q]at hj;cases hj
     |some m=>exact⟨m,rfl⟩
   obtain⟨i,hi,ei⟩:=List.getElem_of_mem (mem_live.mpr (show((j,m):Nat×Nat).1<mask+1/\owner[((j,m):Nat×Nat).1]?=some (some ((j,m):Nat×Nat).2)from⟨hjm,hm⟩))
   exact⟨i,by rw[pl,List.getElem?_eq_getElem hi,ei];rfl⟩
  refine⟨hf,ho,rfl,fun i j hij hj=>?_,fun i v hv=>?_,?_,fun i v e hv he=>?_⟩
  ·have hj':j<(liveL mask owner).length:=by simpa using hj
   have q:=List.pairwise_iff_getElem.mp (live_rise mask owner) i j (by omega) hj' hij
   show(((liveL mask owner).map (·.1)).toArray).getD i 0<(((liveL mask owner).map (·.1)).toArray).getD j 0
   rw[Array.getD_eq_getD_getElem?,Array.getD_eq_getD_getElem?,pl,pl,List.getElem?_eq_getElem hj',List.getElem?_eq_getElem (by omega)]
   exact q
  ·have hv':(((liveL mask owner).map (·.1)).toArray)[i]?=some v:=hv
   rw[pl]at hv'
   cases q:(liveL mask owner)[i]? with
   |none=>rw[q]at hv';cases hv'
   |some p=>
    rw[q]at hv'
    have e:p.1=v:=Option.some.inj hv'
    rw[<-e]
    exact(mem_live.mp (List.mem_of_getElem? q)).1
  ·show(((liveL mask owner).map (·.1)).toArray).size=_
   rw[List.filterMap_toArray,List.size_toArray,List.size_toArray,fm_size _ mlt,List.length_map,List.length_map]
  ·have hv':(((liveL mask owner).map (·.1)).toArray)[i]?=some v:=hv
   rw[pl]at hv'
   rw[List.filterMap_toArray,List.getElem?_toArray,fm_all _ mlt,List.getElem?_map]at he
   cases q:(liveL mask owner)[i]? with
   |none=>rw[q]at hv';cases hv'
   |some p=>
    rw[q]at hv' he
    have e1:p.1=v:=Option.some.inj hv'
    have e2:es[p.2]?=some e:=he
    obtain⟨pm,po⟩:=mem_live.mp (List.mem_of_getElem? q)
    have eh:(es.map (·.1)).toList[p.2]?=some e.1:=by
     rw[Array.getElem?_toList,Array.getElem?_map,e2]
     rfl
    obtain⟨kk,a1,a2⟩:=L.path p.1 p.2 e.1 po eh
    refine⟨kk,by rw[<-e1];exact a1,fun k' hk'=>inPlace _ (a2 k' hk') ?_⟩
    exact Classical.byContradiction fun hge=>by
     have:=a2 k' hk'
     have hp:pos mask (bits e.1) k'<mask+1:=posLt mask (bits e.1) k'
     exact hge hp
 ·rw[List.filterMap_toArray,List.mem_filterMap]
  constructor
  ·rintro⟨m,hm,q⟩
   have:=Array.mem_of_getElem? q
   exact Array.mem_toList_iff.mpr this
  ·intro he
   obtain⟨m,hm,em⟩:=List.getElem_of_mem he
   have hm':m<es.size:=by simpa using hm
   obtain⟨j,hj⟩:=L.has m hm'
   have hjm:j<mask+1:=by
    rw[<-L.size]
    exact(Array.getElem?_eq_some_iff.mp hj).1
   refine⟨m,List.mem_map.mpr ⟨(j,m),mem_live.mpr ⟨hjm,hj⟩,rfl⟩,?_⟩
   rw[<-em]
   simp
end SetT
namespace SetT
open PySem PySem.SetTable PySem.Spec PyProof.Rows
variable{prog:Program}{w:World}{N:Addr->Prop}{A:Around}{E:Value->Shared->Prop}{s:Shared}
abbrev IsP(prog:Program)(w:World)(h:Heap)(k:List Int)(b:Addr):Prop:=IsTupleKey (intKind prog w) h k b
abbrev hk(prog:Program)(w:World)(k:List Int):Int:=(tupleKind (intKind prog w)).hash k
def EntK(prog:Program)(w:World)(N:Addr->Prop)(h:Heap)(e:Int×Value)(k:List Int):Prop:=∃b,(e.2= .ref b/\N b)/\IsP prog w h k b/\e.1=hk prog w k
theorem EntK.inj{h:Heap}{e:Int×Value}{k k':List Int}(x:EntK prog w N h e k)(y:EntK prog w N h e k'):k=k':=by
 obtain⟨b,⟨e1,_⟩,p,_⟩:=x
 obtain⟨b',⟨e2,_⟩,p',_⟩:=y
 rw[e1]at e2
 cases e2
 exact p.inj p'
theorem items_int{ks:List Int}{vs:List Value}(h:ItemsAre (intKind prog w) ks vs):∀v∈vs,∃i t,v= .int i t:=by
 induction h with
 |nil=>intro v hv;simp at hv
 |@cons k v' ks vs h1 _ ih=>
  intro v hv
  rcases List.mem_cons.mp hv with rfl|hv
  ·obtain⟨t,e⟩:=Value.isInt_shape (k:=k) (v:=v) h1
   exact⟨k,t,e⟩
  ·exact ih v hv
theorem fits_of{t:SetTable}{es:Array (Int×Value)}(ok:SetOk t es)(room:es.size<t.mask+1):t.fits es.size=true:=by
 unfold SetTable.fits SetTable.fill
 rw[ok.size,ok.nod]
 simp
 omega
theorem hashByValue_tuple{k:List Int}{b:Addr}{Q:Bool->Shared->Prop}(hp:IsP prog w s.heap k b)(h:∀r,Q r s):wpAny (model prog w) A (hashByValue 8 (.ref b)) Q E s:=by
 have hT:=hp.typeIs
 obtain⟨o,items,n,ho,_,hd,hi⟩:=hp
 unfold hashByValue
 refine wpAny_bind (wpAny_specialOf hT F.slot_tuple_hash.lookup ?_)
 show wpAny _ _ (seqItems? (.ref b)>>=_) _ _ s
 refine wpAny_bind (wpAny_seqItems ho hd ?_)
 refine wpAny_bind ?_
 show wpAny _ _ (forIn items _ _) _ _ s
 rw[<-Array.forIn_toList]
 refine wpAny_forIn_list _ (fun rest r s'=>r.1=none/\s'=s/\∀v∈rest,∃i t,v=Value.int i t) _ ?_ ?_ _ _ ⟨rfl,rfl,items_int hi⟩
 ·rintro v rest r s' ⟨hr,rfl,hall⟩
  obtain⟨i,t,rfl⟩:=hall v List.mem_cons_self
  refine wpAny_bind (wpAny_pure ?_)
  simp only[Bool.not_true,Bool.false_eq_true,if_false]
  exact wpAny_pure ⟨rfl,rfl,fun u hu'=>hall u (List.mem_cons_of_mem _ hu')⟩
 ·rintro⟨r1,r2⟩ s' ⟨hr,rfl,_⟩
  simp only at hr
  subst hr
  exact wpAny_pure (h _)
theorem classStatement_tuple{k:List Int}{b:Addr}{Q:Bool->Shared->Prop}(hp:IsP prog w s.heap k b)(h:Q false s):wpAny (model prog w) A (ofAClassStatement 8 (.ref b)) Q E s:=by
 have hT:=hp.typeIs
 obtain⟨o,items,n,ho,hc,hd,hi⟩:=hp
 unfold ofAClassStatement
 refine wpAny_bind (wpAny_typeOf hT ?_)
 show wpAny _ _ ((if(("tuple":String)=="tuple")=true then pure true else isSubtype (.type "tuple") (.type "tuple"))>>=_) _ _ s
 rw[if_pos (by decide)]
 refine wpAny_bind (wpAny_pure ?_)
 simp only[Bool.not_true,Bool.false_eq_true,if_false]
 refine wpAny_bind (wpAny_seqItems ho hd ?_)
 show wpAny _ _ (forIn items _ _>>=_) _ _ s
 refine wpAny_bind ?_
 rw[<-Array.forIn_toList]
 refine wpAny_forIn_list _ (fun rest r s'=>r.1=none/\s'=s/\∀v∈rest,∃i t,v=Value.int i t) _ ?_ ?_ _ _ ⟨rfl,rfl,items_int hi⟩
 ·rintro v rest r s' ⟨hr,rfl,hall⟩
  obtain⟨i,t,rfl⟩:=hall v List.mem_cons_self
  refine wpAny_bind (wpAny_pure ?_)
  simp only[Bool.false_eq_true,if_false]
  exact wpAny_pure ⟨rfl,rfl,fun u hu'=>hall u (List.mem_cons_of_mem _ hu')⟩
 ·rintro⟨r1,r2⟩ s' ⟨hr,rfl,_⟩
  simp only at hr
  subst hr
  exact wpAny_pure h
theorem unseen{k:List Int}{b:Addr}{Q:Bool->Shared->Prop}(hp:IsP prog w s.heap k b)(l:List Value)(hl:∀y∈l,∃c k',y= .ref c/\IsP prog w s.heap k' c) (h:Q false s):wpAny (model prog w) A (searchCouldBeSeen (.ref b) l) Q E s:=by
 unfold searchCouldBeSeen
 refine wpAny_bind ?_
 refine wpAny_forIn_list _ (fun rest r s'=>r.1=none/\s'=s/\∀y∈rest,∃c k',y=Value.ref c/\IsP prog w s.heap k' c) _ ?_ ?_ _ _ ⟨rfl,rfl,hl⟩
 ·rintro y rest r s' ⟨hr,rfl,hall⟩
  obtain⟨c,k',rfl,hc⟩:=hall y List.mem_cons_self
  have rest':∀y∈rest,∃c k',y=Value.ref c/\IsP prog w s'.heap k' c:=fun u hu=>hall u (List.mem_cons_of_mem _ hu)
  dsimp only
  by_cases hv:((b==c)||(carriedByValue (Value.ref b)&&carriedByValue (Value.ref c)))=true
  ·rw[if_pos hv]
   exact wpAny_pure ⟨rfl,rfl,rest'⟩
  ·rw[if_neg hv]
   refine wpAny_bind (wpAny_eqIsQuiet_tuple hp ?_)
   simp only[Bool.not_true,Bool.false_eq_true,if_false]
   refine wpAny_bind (wpAny_eqIsQuiet_tuple hc ?_)
   simp only[Bool.not_true,Bool.false_eq_true,if_false]
   refine wpAny_bind (classStatement_tuple hp ?_)
   simp only[Bool.false_eq_true,if_false]
   refine wpAny_bind (classStatement_tuple hc ?_)
   simp only[Bool.false_eq_true,if_false]
   exact wpAny_pure ⟨rfl,rfl,rest'⟩
 ·rintro⟨r1,r2⟩ s' ⟨hr,rfl,_⟩
  simp only at hr
  subst hr
  exact wpAny_pure h
variable{prog:Program}{w:World}{N:Addr->Prop}{A:Around}{E:Value->Shared->Prop}{s:Shared}
def shAt(es:Array (Int×Value))(i:Nat):Int:=(es[i]?.map (·.1)).getD 0
theorem storedHash{es:Array (Int×Value)}{i:Nat}{e:Int×Value}(h:es[i]?=some e):shAt es i=e.1:=by
 unfold shAt
 rw[h]
 rfl
theorem search_from{a b:Addr}{o:Obj}{es:Array (Int×Value)}{ep:Nat}{t:SetTable}{k:List Int}{Q:SetFound->Shared->Prop}(hu:A.units<cLine)(ho:s.heap.get? a=some o)(hd:o.data= .set es ep t)(ok:SetOk t es)(room:es.size<t.mask+1)
  (hes:∀e∈es.toList,∃k',EntK prog w N s.heap e k') (hp:IsP prog w s.heap k b)
  {k0:Nat} (hk0:t.slot (pos t.mask (bits (hk prog w k)) k0)= .empty) (hlt0:k0<10*turns t.mask) (hl:∀k',k'<k0->∃i:Nat,t.slot (pos t.mask (bits (hk prog w k)) k')= .live i/\t.place[i]?=some (pos t.mask (bits (hk prog w k)) k'))
  (hfound:(∃e∈es.toList,EntK prog w N s.heap e k)->Q (.there none) s) (hfree:(¬∃e∈es.toList,EntK prog w N s.heap e k)->Q (.free (pos t.mask (bits (hk prog w k)) k0) false) s):
  ∀(fuel kk:Nat)(stand:Option Probe),stand.getD (t.probeStart (hk prog w k))=stk t.mask (bits (hk prog w k)) kk->kk<=k0->k0-kk<fuel->
   (∀k',k'<kk->∀(i:Nat) e,t.place[i]?=some (pos t.mask (bits (hk prog w k)) k')->es[i]?=some e->¬EntK prog w N s.heap e k)->
   wpAny (model prog w) A (setSearchFrom a (.ref b) (hk prog w k) true fuel stand) Q E s
 |0,kk,stand,_,_,hf,_=>absurd hf (Nat.not_lt_zero _)
 |fuel+1,kk,stand,hst,hkk,hf,hno=>by
  have hfits:=fits_of ok room
  have entAt:∀(i v:Nat),t.place[i]?=some v->∃e,es[i]?=some e/\∃k',EntK prog w N s.heap e k':=fun i v hv=>by
   have hi:i<es.size:=by rw[<-ok.size];exact(getD_of hv).1
   refine⟨es[i],by simp[hi],hes _ ?_⟩
   simp
  unfold setSearchFrom
  refine wpAny_bind (wpAny_setState_of ho hd hfits ?_)
  dsimp only
  have hgw:t.gaveWay=false:=by
   unfold SetTable.gaveWay
   rw[ok.odd]
   rfl
  rw[hgw]
  simp only[Bool.false_eq_true,if_false]
  have hprobe:∀f:Nat->Int,t.probe f (hk prog w k) (stand.getD (t.probeStart (hk prog w k)))=probe.go t f (hk prog w k) (10*turns t.mask) (stk t.mask (bits (hk prog w k)) kk):=fun f=>by
   rw[hst]
   rfl
  rw[hprobe]
  rcases go_spec ok (f:=shAt es) (h:=hk prog w k) hk0 hl (10*turns t.mask) kk hkk (by omega)with⟨e1,e2⟩|⟨k1,i,e1,e2,e3,e4,e5,e6,e7⟩
  ·erw[e1]
   dsimp only
   refine wpAny_pure (hfree fun⟨e,he,hek⟩=>?_)
   obtain⟨i,hi,ei⟩:=List.getElem_of_mem he
   have hi':i<es.size:=by simpa using hi
   have hei:es[i]?=some e:=by rw[<-Array.getElem?_toList,List.getElem?_eq_getElem hi,ei]
   have hpl:t.place[i]?=some (t.place.getD i 0):=of_getD (by rw[ok.size];exact hi')
   obtain⟨_,_,_,heh⟩:=id hek
   obtain⟨k2,a1,a2⟩:=ok.path i _ e hpl hei
   rw[heh]at a1 a2
   rcases Nat.lt_trichotomy k2 k0 with q|q|q
   ·by_cases hq:k2<kk
    ·exact hno k2 hq i e (by rw[a1];exact hpl) hei hek
    ·obtain⟨i',p1,p2⟩:=e2 k2 (by omega) q
     rw[a1]at p1
     have:i'=i:=by
      have u1:=below_at ok.rise p1
      have u2:=below_at ok.rise hpl
      omega
     subst this
     exact p2 (by rw[storedHash hei];exact heh)
   ·subst q
    rw[a1]at hk0
    exact slot_empty ok.rise hk0 i hpl
   ·obtain⟨i',p1⟩:=a2 k0 q
    exact slot_empty ok.rise hk0 i' p1
  ·erw[e1]
   dsimp only
   obtain⟨e,hei,ke,b',⟨eb,hnb⟩,hpb,heh⟩:=entAt i _ e4
   have seen:∀(X:Sem SetFound),wpAny (model prog w) A X Q E s->wpAny (model prog w) A (if(!t.led)=true then do
     let r<-searchCouldBeSeen (.ref b) ((es.filter (·.1==hk prog w k)).toList.map (·.2))
     if r=true then unsupported "set:the-search-would-show-the-table" else X
    else X) Q E s:=fun X hX=>by
    split
    ·refine wpAny_bind (unseen hp _ (fun y hy=>?_) ?_)
     ·obtain⟨e',he',rfl⟩:=List.mem_map.mp hy
      have he2:e'∈es.toList:=by
       have:=(Array.mem_filter.mp (Array.mem_toList_iff.mp he')).1
       exact Array.mem_toList_iff.mpr this
      obtain⟨k3,b3,⟨x1,_⟩,x2,_⟩:=hes e' he2
      exact⟨b3,k3,x1,x2⟩
     ·simp only[Bool.false_eq_true,if_false]
      exact hX
    ·exact hX
   first
    |refine seen _ ?_
    |skip
   rw[hei]
   dsimp only
   rw[eb]
   refine wpAny_bind (wpAny_holding (wpAny_eqBool_tuple hu hpb hp ?_))
   refine wpAny_bind (wpAny_setState_of ho hd hfits ?_)
   dsimp only
   by_cases hkk':ke=k
   ·subst hkk'
    simp only[decide_true,Bool.and_self,if_true]
    refine wpAny_pure (hfound ⟨e,?_,b',⟨eb,hnb⟩,hpb,heh⟩)
    exact Array.mem_toList_iff.mpr (Array.mem_of_getElem? hei)
   ·rw[decide_eq_false hkk']
    simp only[Bool.and_false,Bool.false_eq_true,if_false]
    have hsm:t.sameMemory t.moves t.mask=some true:=by
     unfold SetTable.sameMemory
     rw[if_pos (by simp)]
    rw[hsm]
    dsimp only
    simp only[if_true]
    rw[e6]
    dsimp only
    rw[hei]
    dsimp only
    rw[eb]
    refine wpAny_bind (wpAny_isSame_ref_self (wpAny_bind (wpAny_pure ?_)))
    simp only[if_true]
    refine search_from hu ho hd ok room hes hp hk0 hlt0 hl hfound hfree fuel (k1+1) (some (stk t.mask (bits (hk prog w k)) (k1+1))) rfl (by omega) (by omega) fun k' hk' i' e' p1 p2 hek=>?_
    by_cases q:k'<kk
    ·exact hno k' q i' e' p1 p2 hek
    ·by_cases q2:k'=k1
     ·subst q2
      have:i'=i:=by
       have u1:=below_at ok.rise p1
       have u2:=below_at ok.rise e4
       omega
      subst this
      rw[hei]at p2
      cases p2
      exact hkk' (EntK.inj ⟨b',⟨eb,hnb⟩,hpb,heh⟩ hek)
     ·obtain⟨i2,p3,p4⟩:=e7 k' (by omega) (by omega)
      have:i'=i2:=by
       have u1:=below_at ok.rise p1
       have u2:=below_at ok.rise p3
       omega
      subst this
      obtain⟨_,_,_,heh'⟩:=hek
      exact p4 (by rw[storedHash p2];exact heh')
variable{prog:Program}{w:World}{N:Addr->Prop}{A:Around}{E:Value->Shared->Prop}{s:Shared}
def Mk(m:Nat):Prop:=m=7\/m=31\/m=127\/m=511
theorem Mk.full{m:Nat}(h:Mk m):fullB m=true/\m%2=1:=by
 rcases h with rfl|rfl|rfl|rfl
 ·exact⟨full7,rfl⟩
 ·exact⟨full31,rfl⟩
 ·exact⟨full127,rfl⟩
 ·exact⟨full511,rfl⟩
def SetP(prog:Program)(w:World)(N:Addr->Prop)(h:Heap)(a:Addr)(ks:List (List Int)):Prop:=
 ∃o es ep t,h.get? a=some o/\o.ExactSet/\o.data= .set es ep t/\SetOk t es/\Mk t.mask/\es.size*5<t.mask*3/\(∀e∈es.toList,∃k,EntK prog w N h e k)/\(∀k,k∈ks↔∃e∈es.toList,EntK prog w N h e k)/\es.size=ks.length/\ks.Nodup
theorem IsP.same{h h':Heap}{k:List Int}{a b:Addr}{o:Obj}{es:Array (Int×Value)}{ep:Nat}{t:SetTable}(x:IsP prog w h k b)(ho:h.get? a=some o)(hd:o.data= .set es ep t)(hs:Heap.SameBut a h h'):IsP prog w h' k b:=by
 obtain⟨o',items,n,ho',hc,hd',hi⟩:=x
 have hne:b≠a:=by
  rintro rfl
  obtain rfl:o'=o:=Option.some.inj (ho'.symm.trans ho)
  rw[hd]at hd';exact nomatch hd'
 exact⟨o',items,n,(hs.2 b hne).trans ho',hc,hd',hi⟩
theorem EntK.same{h h':Heap}{e:Int×Value}{k:List Int}{a:Addr}{o:Obj}{es:Array (Int×Value)}{ep:Nat}{t:SetTable}(x:EntK prog w N h e k)(ho:h.get? a=some o)(hd:o.data= .set es ep t)(hs:Heap.SameBut a h h'):EntK prog w N h' e k:=
 let⟨b,e1,p,e2⟩:=x;⟨b,e1,p.same ho hd hs,e2⟩
theorem mem_insertAt{es:Array (Int×Value)}{p:Nat}{x e:Int×Value}:e∈(insertAt es p x).toList↔e=x\/e∈es.toList:=by
 rw[insertAt_list,List.mem_append,List.mem_cons]
 constructor
 ·rintro(h|h|h)
  ·exact .inr (List.mem_of_mem_take h)
  ·exact .inl h
  ·exact .inr (List.mem_of_mem_drop h)
 ·rintro(h|h)
  ·exact .inr (.inl h)
  ·rw[<-List.take_append_drop p es.toList]at h
   rcases List.mem_append.mp h with z|z
   ·exact .inl z
   ·exact .inr (.inr z)
theorem store_at{h:Heap}{a:Addr}{o:Obj}{es es':Array (Int×Value)}{ep:Nat}{t t':SetTable}(ho:h.get? a=some o)(hd:o.data= .set es ep t):(h.update a (Obj.putSet es' t')).get? a=some {o with data:= .set es' (ep+1) t'}:=by
 have:=Heap.get?_update_self (Obj.putSet es' t') ho (by rw[putSet_of es' t' hd];rfl)
 rw[putSet_of es' t' hd]at this;exact this
theorem add_spec{a b:Addr}{ks:List (List Int)}{k:List Int}{Q:Bool->Shared->Prop}(hu:A.units<cLine)(hS:SetP prog w N s.heap a ks)(hp:IsP prog w s.heap k b)(hN:N b)(hb:ks.length<=250)
  (h:∀h' r,Heap.SameBut a s.heap h'->SetP prog w N h' a (if k∈ks then ks else ks++[k])->Q r {s with heap:=h'}):
  wpAny (model prog w) A (setAddHashedIn a (.ref b) (hk prog w k) 100000) Q E s:=by
 obtain⟨o,es,ep,t,ho,hex,hd,ok,mk,fl,hes,hks,hsz,hnd⟩:=hS
 have room:es.size<t.mask+1:=by omega
 have hfits:=fits_of ok room
 obtain⟨k0,hlt0,hk0,hl⟩:=first_empty ok room (bits (hk prog w k)) (bits_lt _)
 have m511:t.mask<=511:=by rcases mk with q|q|q|q<;>omega
 unfold setAddHashedIn
 refine wpAny_bind (wpAny_setState_of ho hd hfits ?_)
 dsimp only
 have hscan:byScan (.ref b) es=false:=rfl
 rw[hscan]
 simp only[Bool.false_eq_true,if_false]
 unfold setSearch
 refine wpAny_bind (search_from hu ho hd ok room hes hp hk0 hlt0 hl (fun hfound=>?_) (fun hfree=>?_) 100000 0 none rfl (Nat.zero_le _) (by unfold turns at hlt0;omega) (fun k' hk'=>absurd hk' (Nat.not_lt_zero _)))
 ·
  dsimp only
  refine wpAny_pure ?_
  have e:s={s with heap:=s.heap}:=by cases s;rfl
  rw[e]
  refine h s.heap false (Heap.SameBut.refl a s.heap) ?_
  rw[if_pos ((hks k).mpr hfound)]
  exact⟨o,es,ep,t,ho,hex,hd,ok,mk,fl,hes,hks,hsz,hnd⟩
 ·
  dsimp only
  have hkn:k ∉ ks:=fun z=>hfree ((hks k).mp z)
  refine wpAny_bind (wpAny_setState_of ho hd hfits ?_)
  dsimp only
  rw[put_eq ok.nod]
  dsimp only
  have hjlt:=posLt t.mask (bits (hk prog w k)) k0
  have ins:=insert_ok (x:= .ref b) ok hk0 hjlt hl
  have b1':below t.place (pos t.mask (bits (hk prog w k)) k0)<=es.size:=by rw[<-ok.size];exact(below_spec ok.rise _).1
  have isz:(insertAt es (below t.place (pos t.mask (bits (hk prog w k)) k0)) (hk prog w k,Value.ref b)).size=es.size+1:=insertAt_size _ _ _ b1'
  generalize hes':insertAt es (below t.place (pos t.mask (bits (hk prog w k)) k0)) (hk prog w k,Value.ref b)=es' at*
  have mem':∀e,e∈es'.toList↔e=(hk prog w k,Value.ref b)\/e∈es.toList:=fun e=>by rw[<-hes'];exact mem_insertAt
  have fin:∀t2:SetTable,SetOk t2 es'->t2.mask=t.mask->t2.fill=es'.size->wpAny (model prog w) A (do
     storeSet a es' t2
     if(!false&&t2.tooFull)=true then do setRelay a (SetTable.grown (es.size+1));pure true else pure true) Q E s:=by
   intro t2 ok2 em ef
   have s1:=Heap.SameBut.update s.heap a (Obj.putSet es' t2)
   have ho1:=store_at (es':=es') (t':=t2) ho hd
   have hes1:∀e∈es'.toList,∃k',EntK prog w N (s.heap.update a (Obj.putSet es' t2)) e k':=fun e he=>by
    rcases(mem' e).mp he with q|q
    ·exact⟨k,b,⟨by rw[q],hN⟩,hp.same ho hd s1,by rw[q]⟩
    ·obtain⟨k',x⟩:=hes e q
     exact⟨k',x.same ho hd s1⟩
   have hks1:∀k',k'∈ks++[k]↔∃e∈es'.toList,EntK prog w N (s.heap.update a (Obj.putSet es' t2)) e k':=fun k'=>by
    rw[List.mem_append,List.mem_singleton,hks k']
    constructor
    ·rintro(⟨e,he,x⟩|rfl)
     ·exact⟨e,(mem' e).mpr (.inr he),x.same ho hd s1⟩
     ·exact⟨(hk prog w k',Value.ref b),(mem' _).mpr (.inl rfl),b,⟨rfl,hN⟩,hp.same ho hd s1,rfl⟩
    ·rintro⟨e,he,x⟩
     rcases(mem' e).mp he with q|q
     ·refine .inr ?_
      subst q
      exact x.inj ⟨b,⟨rfl,hN⟩,hp.same ho hd s1,rfl⟩
     ·obtain⟨k2,y⟩:=hes e q
      have:=x.inj (y.same ho hd s1)
      subst this
      exact .inl ⟨e,q,y⟩
   have hnd1:(ks++[k]).Nodup:=by
    rw[List.nodup_append]
    exact⟨hnd,by simp,fun x hx y hy=>by rw[List.mem_singleton.mp hy];exact fun z=>hkn (z▸hx)⟩
   have hsz1:es'.size=(ks++[k]).length:=by rw[isz,List.length_append,hsz];rfl
   refine wpAny_bind (wpAny_storeSet_of ho hd ?_ (by rw[sizeLine_eq];omega))
   by_cases tf:t2.tooFull=true
   ·rw[tf]
    simp only[Bool.not_false,Bool.and_self,if_true]
    have big:es'.size*5≥t.mask*3:=by
     unfold SetTable.tooFull at tf
     rw[ef,em]at tf
     exact of_decide_eq_true tf
    have cs:(t.mask=7/\es.size+1=5)\/(t.mask=31/\es.size+1=19)\/(t.mask=127/\es.size+1=77):=by
     rcases mk with q|q|q|q<;>omega
    have good:Mk (sizeAbove (grown (es.size+1))-1)/\es'.size*5<(sizeAbove (grown (es.size+1))-1)*3/\sizeAbove (grown (es.size+1))<=1000:=by
     rcases cs with⟨_,q⟩|⟨_,q⟩|⟨_,q⟩<;>rw[isz,q]
     ·exact⟨.inr (.inl (by decide)),by decide,by decide⟩
     ·exact⟨.inr (.inr (.inl (by decide))),by decide,by decide⟩
     ·exact⟨.inr (.inr (.inr (by decide))),by decide,by decide⟩
    obtain⟨t3,order,r1,r2,r3,r4,_,_,r7⟩:=relaid_ok (t:=t2) (es:=es') (wanted:=grown (es.size+1)) good.1.full.1 good.1.full.2 (by omega)
    refine wpAny_bind ?_
    unfold setRelay
    refine wpAny_bind (wpAny_setState_of (s:={s with heap:=s.heap.update a (Obj.putSet es' t2)}) ho1 rfl (fits_of ok2 (by rw[em];omega)) ?_)
    dsimp only
    rw[if_neg (by rw[sizeLine_eq];omega)]
    rw[r1]
    refine wpAny_bind (wpAny_of_eq (a:=(order.filterMap (es'[·]?),t3)) ?_ ?_)
    ·have r2b:((order.filterMap (es'[·]?)).size !=es'.size)=false:=by rw[r2];simp
     first
      |(show(if((order.filterMap (es'[·]?)).size !=es'.size)=true then unsupported "internal:set-table-lost-an-element" else pure (order.filterMap (es'[·]?),t3))=_;rw[r2b];rfl)
      |(show(if((order.filterMap (es'[·]?)).size !=es'.size)=true then(do let _<-(unsupported "internal:set-table-lost-an-element":Sem PUnit);pure (order.filterMap (es'[·]?),t3))else pure (order.filterMap (es'[·]?),t3))=_;rw[r2b];rfl)
      |(show(if((order.filterMap (es'[·]?)).size !=es'.size)=true then(do let _<-(unsupported "internal:set-table-lost-an-element":Sem PUnit);pure (order.filterMap (es'[·]?),t3))else(do let _<-(pure PUnit.unit:Sem PUnit);pure (order.filterMap (es'[·]?),t3)))=_;rw[r2b];rfl)
    dsimp only
    refine wpAny_storeSet_of (s:={s with heap:=s.heap.update a (Obj.putSet es' t2)}) ho1 rfl ?_ (by rw[r2,sizeLine_eq];omega)
    refine wpAny_pure (h _ true (s1.trans (Heap.SameBut.update _ a _)) ?_)
    rw[if_neg hkn]
    have s2:=Heap.SameBut.update (s.heap.update a (Obj.putSet es' t2)) a (Obj.putSet (order.filterMap (es'[·]?)) t3)
    have ho2:=store_at (es':=order.filterMap (es'[·]?)) (t':=t3) ho1 rfl
    refine⟨_,_,_,t3,ho2,hex,rfl,r3,by rw[r4];exact good.1,by rw[r2,r4];exact good.2.1,fun e he=>?_,fun k'=>?_,by rw[r2];exact hsz1,hnd1⟩
    ·obtain⟨k',x⟩:=hes1 e ((r7 e).mp he)
     exact⟨k',x.same ho1 rfl s2⟩
    ·rw[hks1 k']
     constructor
     ·rintro⟨e,he,x⟩
      exact⟨e,(r7 e).mpr he,x.same ho1 rfl s2⟩
     ·rintro⟨e,he,x⟩
      obtain⟨k2,y⟩:=hes1 e ((r7 e).mp he)
      have:=x.inj (y.same ho1 rfl s2)
      subst this
      exact⟨e,(r7 e).mp he,y⟩
   ·rw[Bool.not_eq_true]at tf
    rw[tf]
    simp only[Bool.and_false,Bool.false_eq_true,if_false]
    have small:es'.size*5<t.mask*3:=by
     unfold SetTable.tooFull at tf
     rw[ef,em]at tf
     have:=of_decide_eq_false tf
     omega
    refine wpAny_pure (h _ true s1 ?_)
    rw[if_neg hkn]
    exact⟨_,es',_,t2,ho1,hex,rfl,ok2,by rw[em];exact mk,by rw[em];exact small,hes1,hks1,hsz1,hnd1⟩
  have fill1:({t with place:=insertAt t.place (below t.place (pos t.mask (bits (hk prog w k)) k0)) (pos t.mask (bits (hk prog w k)) k0)}:SetTable).fill=es'.size:=by
   unfold SetTable.fill
   rw[ins.size,ins.nod]
   simp
  have okOff:SetOk ({t with place:=insertAt t.place (below t.place (pos t.mask (bits (hk prog w k)) k0)) (pos t.mask (bits (hk prog w k)) k0),plain:=false}:SetTable) es':=⟨ins.full,ins.odd,ins.nod,ins.rise,ins.le,ins.size,ins.path⟩
  have both:∀r:Bool,wpAny (model prog w) A (do
     storeSet a es' (if r=true then({t with place:=insertAt t.place (below t.place (pos t.mask (bits (hk prog w k)) k0)) (pos t.mask (bits (hk prog w k)) k0)}:SetTable)else({t with place:=insertAt t.place (below t.place (pos t.mask (bits (hk prog w k)) k0)) (pos t.mask (bits (hk prog w k)) k0),plain:=false}:SetTable))
     if(!false&&(if r=true then({t with place:=insertAt t.place (below t.place (pos t.mask (bits (hk prog w k)) k0)) (pos t.mask (bits (hk prog w k)) k0)}:SetTable)else({t with place:=insertAt t.place (below t.place (pos t.mask (bits (hk prog w k)) k0)) (pos t.mask (bits (hk prog w k)) k0),plain:=false}:SetTable)).tooFull)=true then do setRelay a (SetTable.grown (es.size+1));pure true else pure true) Q E s:=fun r=>by
   cases r with
   |true=>exact fin ({t with place:=insertAt t.place (below t.place (pos t.mask (bits (hk prog w k)) k0)) (pos t.mask (bits (hk prog w k)) k0)}:SetTable) ins rfl fill1
   |false=>exact fin ({t with place:=insertAt t.place (below t.place (pos t.mask (bits (hk prog w k)) k0)) (pos t.mask (bits (hk prog w k)) k0),plain:=false}:SetTable) okOff rfl fill1
  split
  ·exact wpAny_bind (hashByValue_tuple hp fun r=>both r)
  ·exact wpAny_bind (wpAny_pure (both true))
def stepK(σ:List (List Int))(k:List Int):List (List Int):=if k∈σ then σ else σ++[k]
def kd(key:Nat->List Int)(i:Nat):List (List Int):=((List.range i).map key).foldl stepK []
theorem kd_succ(key:Nat->List Int)(i:Nat):kd key (i+1)=stepK (kd key i) (key i):=by
 unfold kd;rw[List.range_succ,List.map_append,List.foldl_append];rfl
theorem kd_len(key:Nat->List Int):∀i,(kd key i).length<=i
 |0=>Nat.le_refl _
 |i+1=>by
  rw[kd_succ];unfold stepK
  have ih:=kd_len key i
  split
  ·omega
  ·rw[List.length_append,List.length_singleton];omega
theorem fresh_ok{prog:Program}{w:World}{N:Addr->Prop}{h:Heap}{a:Addr}{led:Bool}{key:Nat->List Int}(hget:h.get? a=some {cls:= .type "set",dict:=none,data:= .set #[] 0 (.fresh 0 0 led)}):SetP prog w N h a (kd key 0):=by
 refine⟨_,#[],0,.fresh 0 0 led,hget,⟨rfl,rfl,rfl⟩,rfl,⟨full7,(by show 7%2=1;decide),rfl,fun i j _ h=>absurd h (Nat.not_lt_zero _),fun i v h=>?_,rfl,fun i v e h=>?_⟩,.inl rfl,(by show 0*5<7*3;decide),fun e he=>?_,fun k=>⟨fun hk=>(nomatch hk),fun h=>?_⟩,rfl,List.nodup_nil⟩
 ·exact absurd (show(#[]:Array Nat)[i]?=some v from h) (by simp)
 ·exact absurd (show(#[]:Array Nat)[i]?=some v from h) (by simp)
 ·simp at he
 ·obtain⟨e,he,_⟩:=h
  simp at he
section
variable{prog:Program}{w:World}{A:Around}{R:Result->Shared->Prop}{I:Addr}{fp wr:List Addr}{G:Array GenState->Array GenState->Prop}{n:Nat}{P:Nat->Value->Prop}{St:Nat->Shared->Prop}
theorem update_loop(W:WalksS prog w A.in1 I fp wr G n P St)(S:Addr)(hSf:S ∉ fp)(key:Nat->List Int)(hu:A.in1.units<cLine)(hb:n<=250):
  ∀(k i:Nat)(s:Shared),n-i=k->i<=n->St i s->(∀(j:Nat) v,P j v->∃b,v= .ref b/\IsP prog w s.heap (key j) b/\b ∉ S::wr)->
   SetP prog w (fun b=>b ∉ S::wr) s.heap S (kd key i)->
   (∀s',Moved (S::wr) G s s'->SetP prog w (fun b=>b ∉ S::wr) s'.heap S (kd key n)->R (.ok (.ret .none)) s')->
   codeAny (model prog w) A (.builtin "set.update.loop" ⟨[.ref S,.ref I],[]⟩) R s:=by
 have hSw:S ∉ wr:=fun h=>hSf (W.sub _ h)
 have hsub:∀b∈wr,b∈S::wr:=fun b hb=>List.mem_cons_of_mem _ hb
 have keepS:∀{s s':Shared}{ks:List (List Int)},(∀b o,b ∉ wr->s.heap.get? b=some o->s'.heap.get? b=some o)->SetP prog w (fun b=>b ∉ S::wr) s.heap S ks->SetP prog w (fun b=>b ∉ S::wr) s'.heap S ks:=by
  intro s s' ks hk hS
  obtain⟨o,es,ep,t,ho,hex,hd,ok,mk,fl,hes,hks,hsz,hnd⟩:=hS
  have lift:∀e k,EntK prog w (fun b=>b ∉ S::wr) s.heap e k->EntK prog w (fun b=>b ∉ S::wr) s'.heap e k:=fun e k x=>by
   obtain⟨b,⟨e2,hn⟩,⟨ob,items,m,h1,h2⟩,e3⟩:=x
   exact⟨b,⟨e2,hn⟩,⟨ob,items,m,hk b ob (fun z=>hn (hsub b z)) h1,h2⟩,e3⟩
  refine⟨o,es,ep,t,hk S o hSw ho,hex,hd,ok,mk,fl,fun e he=>?_,fun k=>?_,hsz,hnd⟩
  ·obtain⟨k,x⟩:=hes e he
   exact⟨k,lift e k x⟩
  ·rw[hks k]
   constructor
   ·rintro⟨e,he,x⟩
    exact⟨e,he,lift e k x⟩
   ·rintro⟨e,he,x⟩
    obtain⟨k2,y⟩:=hes e he
    have:=x.inj (lift e k2 y)
    subst this
    exact⟨e,he,y⟩
 intro k
 induction k with
 |zero=>
  intro i s hk hi hst hv hS hR
  have hin:i=n:=by omega
  subst hin
  refine codeAny_builtin F.entry_set_update_loop ?_
  rw[Around.under_plainId F.plain_set_update_loop _]
  show wpAny _ A.in1 (pyNext (.ref I)>>=_) _ _ s
  refine wpAny_bind (W.done s _ _ hst fun s' hm=>?_)
  show wpAny _ A.in1 (ret Value.none) _ _ s'
  exact wpAny_pure (hR s' (hm.mono hsub) (keepS hm.heap hS))
 |succ k ih=>
  intro i s hk hi hst hv hS hR
  have hlt:i<n:=by omega
  refine codeAny_builtin F.entry_set_update_loop ?_
  rw[Around.under_plainId F.plain_set_update_loop _]
  show wpAny _ A.in1 (pyNext (.ref I)>>=_) _ _ s
  refine wpAny_bind (W.item i s _ _ hlt hst fun v s' hP hst' hm=>?_)
  obtain⟨b,rfl,hp,hbn⟩:=hv i v hP
  have hbw:b ∉ wr:=fun z=>hbn (hsub b z)
  have hS':=keepS hm.heap hS
  have hp':IsP prog w s'.heap (key i) b:=let⟨ob,items,m,h1,h2⟩:=hp;⟨ob,items,m,hm.heap b ob hbw h1,h2⟩
  show wpAny _ A.in1 (holding [Value.ref b] (setAdd S (.ref b))>>=_) _ _ s'
  refine wpAny_bind (wpAny_holding ?_)
  unfold setAdd
  refine wpAny_holding ?_
  refine wpAny_bind ((tupleKind (intKind prog w)).pyHash (k:=key i) hu hp' ?_)
  unfold setAddHashed
  refine wpAny_holding ?_
  have hlen:=kd_len key i
  refine add_spec (N:=fun b=>b ∉ S::wr) (s:={s' with toks:=s'.toks+(tupleKind (intKind prog w)).draws (key i)}) hu hS' hp' hbn (by omega) fun h' r hsb hS2=>?_
  have hSi:SetP prog w (fun b=>b ∉ S::wr) h' S (kd key (i+1)):=by
   rw[kd_succ]
   exact hS2
  refine wpAny_pure ⟨plainId_quiet F.plain_set_update_loop _,ih (i+1) _ (by omega) hlt (W.frame _ s' _ _ hst' (Nat.le_add_right _ _) fun b hb o e=>?_) (fun j v hj=>?_) hSi fun s'' hm'' hS''=>?_⟩
  ·rw[hsb.2 b (fun h:b=S=>hSf (by rw[<-h];exact hb))];exact e
  ·obtain⟨b2,e2,⟨ob,items,m,h1,h2⟩,hn2⟩:=hv j v hj
   refine⟨b2,e2,⟨ob,items,m,?_,h2⟩,hn2⟩
   exact(hsb.2 b2 (fun h:b2=S=>hn2 (by rw[h];exact List.mem_cons_self))).trans (hm.heap b2 ob (fun z=>hn2 (hsub b2 z)) h1)
  ·refine hR s'' (Moved.trans W.gtrans ((hm.mono hsub).then_heap (Nat.le_add_right _ _) fun b o hb e=>?_) hm'') hS''
   rw[hsb.2 b (fun h:b=S=>hb (by rw[h];exact List.mem_cons_self))];exact e
end
variable{prog:Program}{w:World}{A:Around}{E:Value->Shared->Prop}{s:Shared}
def SetN(h:Heap)(a:Addr)(n:Nat):Prop:=∃o es ep t,h.get? a=some o/\o.ExactSet/\o.data= .set es ep t/\t.fits es.size=true/\es.size=n
theorem SetP.num{N:Addr->Prop}{h:Heap}{a:Addr}{ks:List (List Int)}(x:SetP prog w N h a ks):SetN h a ks.length:=by
 obtain⟨o,es,ep,t,ho,hex,hd,ok,mk,fl,_,_,hsz,_⟩:=x
 exact⟨o,es,ep,t,ho,hex,hd,fits_of ok (by omega),hsz⟩
theorem call_set_tuples{l:Addr}{items:Array Value}{key:Nat->List Int}{Q:Value->Shared->Prop}
  (hh:A.handled=none)(hu:A.units+8<cLine)(hl:s.heap.IsList l items)(hi:∀(i:Nat)(v:Value),items[i]?=some v->∃b,v= .ref b/\IsP prog w s.heap (key i) b) (hb:items.size<=250)
  (h:∀(h':Heap)(tk:Nat),SetN h' s.heap.objs.size (kd key items.size).length->
   (∀b o,b<s.heap.objs.size->s.heap.get? b=some o->h'.get? b=some o)->Q (.ref s.heap.objs.size) {s with heap:=h',toks:=tk}):
  wpAny (model prog w) A (call (.type "set") [.ref l]) Q E s:=by
 obtain⟨c,tl,hmro⟩:=F.called_set.mro
 have hmade:=F.called_set.made
 have hsub:=F.called_set.sub
 refine wpAny_call (codeAny_of_tree ?_)
 show wpAny _ _ (callAny (.type "set") _) _ _ _
 refine wpAny_pure ⟨Code.quiet_builtin _ (by decide+kernel),codeAny_builtin F.entry_type_call ?_⟩
 rw[Around.under_plain (weight_type_call_type "set" [.ref l] []) rfl]
 have h1:=F.called_set.notType
 have h2:=F.called_set.canCreate
 have hct:=F.typeCall_set_1 (.ref l)
 repeat (any_goals (first|assumption|wp_step))
 refine codeAny_mono (code_set_new_1 (.ref l) (E:=E) (Q₁:=fun obj s₁=>∃led:Bool,obj= .ref s.heap.objs.size/\s₁={s with heap:=s.heap.push {cls:= .type "set",dict:=none,data:= .set #[] 0 (.fresh 0 0 led)}}) fun led=>⟨led,rfl,rfl⟩) fun r s₁ hr=>?_
 cases r with
 |error e=>exact hr
 |ok fl=>
  cases fl with
  |ret obj=>
   obtain⟨led,rfl,rfl⟩:=hr
   have hS:(s.heap.push {cls:= .type "set",dict:=none,data:= .set #[] 0 (.fresh 0 0 led)}).get? s.heap.objs.size=some {cls:= .type "set",dict:=none,data:= .set #[] 0 (.fresh 0 0 led)}:=Heap.get?_push_size _ rfl
   have hT:Shared.TypeIs {s with heap:=s.heap.push {cls:= .type "set",dict:=none,data:= .set #[] 0 (.fresh 0 0 led)}} (.ref s.heap.objs.size) "set":=⟨_,hS,rfl⟩
   have hli:=F.called_set.init.lookup
   have hbi:=F.called_set.init.bind (.ref s.heap.objs.size)
   repeat (any_goals (first|assumption|wp_step))
   refine codeAny_mono (codeAny_call_builtin (R:=wants (fun r s₂=>r= .none/\∃h' tk,s₂={s with heap:=h',toks:=tk}/\
     SetN h' s.heap.objs.size (kd key items.size).length/\
     (∀b o,b<s.heap.objs.size->s.heap.get? b=some o->h'.get? b=some o)) E) F.called_set.init.plain F.entry_set_init (check_set_init_1 hT ?_)) fun r₂ s₂ hr₂=>?_
   ·obtain⟨ol,hol,hcl,nl,hdl⟩:=hl
    obtain⟨ocls,odict,odata,oslots⟩:=ol
    simp only at hcl hdl
    subst hcl;subst hdl
    have hol':(s.heap.push {cls:= .type "set",dict:=none,data:= .set #[] 0 (.fresh 0 0 led)}).get? l=some {cls:= .type "list",dict:=odict,data:= .seq items nl,slots:=oslots}:=Heap.get?_push_of_some _ hol
    have hsls:=F.sub_list_set
    have hslf:=F.sub_list_frozenset
    have hne:(Value.type "list"==Value.type "dict")=false:=by decide
    have hl1:(s.heap.push {cls:= .type "set",dict:=none,data:= .set #[] 0 (.fresh 0 0 led)}).IsList l items:=⟨_,hol',rfl,nl,rfl⟩
    unfold Builtin.«set.__init__» noKeywords Builtin.Frozenset.updateFrom
    generalize hPI:pyIter=PI
    wp_walk
    subst hPI
    refine wpAny_pyIter_list hl1 ?_
    refine wpAny_bind (wpAny_runValue ?_)
    have hlS:l<s.heap.objs.size:=Heap.lt_size hol
    have hh3:A.in1.in1.in1.handled=none:=by simp[hh]
    have hu':A.in1.in1.in1.units<cLine:=by show A.units+1+1+1<cLine;omega
    have hneI:l≠(s.heap.push {cls:= .type "set",dict:=none,data:= .set #[] 0 (.fresh 0 0 led)}).objs.size:=by
     rw[Heap.size_push];exact Nat.ne_of_lt (Nat.lt_succ_of_lt hlS)
    have hSf:s.heap.objs.size ∉ [(s.heap.push {cls:= .type "set",dict:=none,data:= .set #[] 0 (.fresh 0 0 led)}).objs.size,l]:=by
     rw[Heap.size_push];simp only[List.mem_cons,List.mem_singleton,List.not_mem_nil,or_false,not_or]
     exact⟨Nat.ne_of_lt (Nat.lt_succ_self _),Nat.ne_of_gt hlS⟩
    refine update_loop ((Walks.list hh3 _ l hneI items).toS) s.heap.objs.size
     hSf key hu' hb (items.size-0) 0 _ (by omega) (Nat.zero_le _)
     ⟨⟨_,Heap.get?_push_size _ rfl,rfl,rfl⟩,(hl1.push _)⟩ (fun i v hv=>?hval) ?hS0 ?hR
    case hval=>
     obtain⟨b,e,hp⟩:=hi i v hv
     obtain⟨ob,items',n',ho',r⟩:=hp
     have hbs:b<s.heap.objs.size:=Heap.lt_size ho'
     refine⟨b,e,⟨ob,items',n',Heap.get?_push_of_some _ (Heap.get?_push_of_some _ ho'),r⟩,?_⟩
     rw[Heap.size_push]
     simp only[List.mem_cons,List.mem_singleton,List.not_mem_nil,or_false,not_or]
     exact⟨Nat.ne_of_lt hbs,Nat.ne_of_lt (Nat.lt_succ_of_lt hbs)⟩
    case hS0=>
     have hget:((s.heap.push {cls:= .type "set",dict:=none,data:= .set #[] 0 (.fresh 0 0 led)}).push {cls:= .type "list_iterator",data:= .fields #[.ref l,.int 0 0]}).get? s.heap.objs.size
       =some {cls:= .type "set",dict:=none,data:= .set #[] 0 (.fresh 0 0 led)}:=Heap.get?_push_of_some _ hS
     exact fresh_ok hget
    case hR=>
     intro s' hm hS'
     obtain⟨h',g',d',tk',os'⟩:=s'
     have eg:g'=s.gens:=hm.gens
     have ed:d'=s.drawn:=hm.drawn
     have eo:os'=s.os:=hm.os
     subst eg;subst ed;subst eo
     show wpAny _ _ _ _ _ _
     refine wpAny_pure ?_
     show wpAny _ _ (ret Value.none) _ _ _
     refine wpAny_pure ⟨rfl,h',tk',rfl,hS'.num,fun b o hb e=>?_⟩
     have hb1:b≠s.heap.objs.size:=Nat.ne_of_lt hb
     have hb2:b≠(s.heap.push {cls:= .type "set",dict:=none,data:= .set #[] 0 (.fresh 0 0 led)}).objs.size:=by
      rw[Heap.size_push];exact Nat.ne_of_lt (Nat.lt_succ_of_lt hb)
     exact hm.heap b o (by simp only[List.mem_cons,List.mem_singleton,List.not_mem_nil,or_false,not_or];exact⟨hb1,hb2⟩) (Heap.get?_push_of_some _ (Heap.get?_push_of_some _ e))
   ·cases r₂ with
    |error e=>exact hr₂
    |ok fl₂=>
     cases fl₂ with
     |ret r=>
      obtain⟨rfl,h',tk,rfl,hS',hk'⟩:=hr₂
      repeat (any_goals (first|assumption|wp_step))
      exact h _ _ hS' hk'
     |_=>exact hr₂.elim
  |_=>exact hr.elim
end SetT
namespace L2
open PySem PySem.Spec PyProof.Rows
def setHO(q:Addr)(n:Nat):HO:= .ext fun h=>SetT.SetN h q n
theorem setN_at{h1 h2:Heap}{q:Addr}{n:Nat}(x:SetT.SetN h1 q n)(k:∀o,h1.get? q=some o->h2.get? q=some o):SetT.SetN h2 q n:=
 let⟨o,es,ep,t,ho,r⟩:=x;⟨o,es,ep,t,k o ho,r⟩
theorem items_of{P:Program}{w:World}{ks:List Int}:∀{us:List Value},Vals (ks.map V.int) us->ItemsAre (intKind P w) ks us:=by
 induction ks with
 |nil=>intro us r;cases r;exact .nil
 |cons k ks ih=>
  intro us r
  cases r with
  |cons h t=>
   obtain⟨tk,rfl⟩:=h
   exact .cons (intKind_is _ _ _ _) (ih t)
theorem kd_eq(keys:List (List Int)):SetT.kd (fun i=>keys.getD i []) keys.length=keys.foldl SetT.stepK []:=by
 unfold SetT.kd
 congr 1
 refine List.ext_getElem? fun i=>?_
 rw[List.getElem?_map]
 by_cases hi:i<keys.length
 ·rw[List.getElem?_range hi,List.getElem?_eq_getElem hi]
  show some (keys.getD i [])=_
  rw[List.getD_eq_getElem?_getD,List.getElem?_eq_getElem hi]
  rfl
 ·rw[List.getElem?_eq_none (by rw[List.length_range];omega),List.getElem?_eq_none (by omega)]
  rfl
section
variable{X:Cx}
def rSetT(K:PySem.W.Frag):List V->Hp->VK->Prop:=fun xs H Q=>∃p ys,∃keys:List (List Int),xs=[.ref p]/\SqL K H p ys/\ys.length=keys.length/\ys.length<=250/\
 (∀(i:Nat) y k,ys[i]?=some y->keys[i]?=some k->∃b,y= .ref b/\H b=some (.tup (k.map V.int)))/\∀q H',Same H H'->H' q=some (setHO q (keys.foldl SetT.stepK []).length)->Q (.ref q) H'
theorem call_setT{k:Nat}(hr:Room k X.A):CallR X (.type "set") (rSetT X.K):=by
 intro pins s σ H xs us Q I r h
 obtain⟨p,ys,keys,rfl,hp,hlen,h250,hk,q⟩:=h
 obtain⟨u,rfl,rx⟩:=vals1 r
 cases(show u=Value.ref p from rx)
 obtain⟨vs,rv,pl,hz⟩:=I.list hp
 have hvl:=rv.length
 refine SetT.call_set_tuples (key:=fun i=>keys.getD i []) hr.hd (by have:=hr.un;omega) pl.isList (fun i v hv=>?_) (by rw[List.size_toArray];omega) fun h' tk hN kp=>?_
 ·have hv':vs[i]?=some v:=by simpa using hv
  have hi:i<vs.length:=(List.getElem?_eq_some_iff.mp hv').1
  have hy:ys[i]?=some ys[i]:=List.getElem?_eq_getElem (by omega)
  have hke:keys[i]?=some keys[i]:=List.getElem?_eq_getElem (by omega)
  obtain⟨b,eb,hb⟩:=hk i _ _ hy hke
  obtain⟨u2,e2,r2⟩:=rv.get hy
  rw[hv']at e2
  cases e2
  rw[eb]at r2
  obtain⟨_,its,ri,o,ho,hc,n,hd⟩:=I.hok b _ hb
  refine⟨b,r2,o,its.toArray,n,ho,hc,hd,?_⟩
  rw[List.getD_eq_getElem?_getD,hke]
  exact items_of ri
 ·have e:(SetT.kd (fun i=>keys.getD i []) vs.toArray.size).length=(keys.foldl SetT.stepK []).length:=by
   rw[List.size_toArray,show vs.length=keys.length by omega,kd_eq]
  rw[e]at hN
  have kp':∀b o,s.heap.get? b=some o->h'.get? b=some o:=fun b o e=>kp b o (Heap.lt_size e) e
  refine⟨.ref s.heap.objs.size,_,I.laid (t':=tk) (o:=setHO s.heap.objs.size (keys.foldl SetT.stepK []).length) kp' (Nat.le_refl _) ?_,rfl,q _ _ (same_add (I.hok.fresh (Nat.le_refl _))) upd_same⟩
  exact⟨hN,let⟨o,_,_,_,ho,_⟩:=hN;⟨o,ho⟩,fun h1 h2 x k=>setN_at x k⟩
def rLenS:List V->Hp->VK->Prop:=fun xs H Q=>∃q n,xs=[.ref q]/\H q=some (setHO q n)/\n<=100000/\Q (.int n) H
theorem call_lenS:CallR X (.builtin "len") rLenS:=by
 intro pins s σ H xs us Q I r h
 obtain⟨p,n,rfl,hp,hn,q⟩:=h
 obtain⟨u,rfl,rx⟩:=vals1 r
 cases(show u=Value.ref p from rx)
 obtain⟨o,es,ep,t,ho,hex,hd,hf,he⟩:SetT.SetN s.heap p n:=(I.hok p _ hp).1
 refine call_len_set ho hex hd hf (by omega) ⟨.int n,H,I.tok _,⟨_,by rw[he]⟩,q⟩
end
theorem boot_zip:bootBuiltins "zip"=some (.type "zip"):=by decide+kernel
end L2
namespace PySem
open Sem (wp)
open PyProof.Rows
section
variable{prog:Program}{w:World}{A:Around}{R:Result->Shared->Prop}{I:Addr}{fp wr:List Addr}{n:Nat}{P:Nat->Value->Prop}{St:Nat->Heap->Prop}{d:Value}
theorem maxD_loop(W:Walks prog w A.in1 I fp wr n P St)(bt:Nat->Nat->Bool)(hcmp:CmpOf prog w A.in1 .Gt P bt)(S:Addr)(hSf:S ∉ fp):
  ∀(k j:Nat)(s:Shared)(vb:Value)(c:Nat),n-(j+1)=k->j+1<=n->St (j+1) s.heap->P (argBest bt j) vb->
  s.heap.get? S=some {cls:= .type "list",dict:=none,data:= .seq #[vb,vb] c,slots:=#[]}->
  (∀v h' tk,P (argBest bt (n-1)) v->(∀b o,b ∉ wr->b≠S->s.heap.get? b=some o->h'.get? b=some o)->R (.ok (.ret v)) {s with heap:=h',toks:=tk})->
  codeAny (model prog w) A (.builtin "max.loop" ⟨[.ref I,.none,.ref S],[("default",d)]⟩) R s:=by
 have hSw:S ∉ wr:=fun h=>hSf (W.sub _ h)
 have hname:(toString "max"++toString ".loop":String)="max.loop":=by decide
 intro k
 induction k with
 |zero=>
  intro j s vb c hk hj hst hPb hS hR
  have hin:j+1=n:=by omega
  refine codeAny_builtin F.entry_max_loop ?_
  rw[Around.under_plainId F.plain_max_loop _]
  show wpAny _ A.in1 (seqItems? (.ref S)>>=_) _ _ s
  refine wpAny_bind (wpAny_seqItems hS rfl ?_)
  show wpAny _ A.in1 (tryCatch (pyNext (.ref I)) _>>=_) _ _ s
  refine wpAny_bind (wpAny_tryCatch (W.done s _ _ (hin▸hst) fun h' tk hk'=>?_))
  have hS':=hk' S _ hSw hS
  show wpAny _ A.in1 (updateSeq S (fun _=>#[])>>=_) _ _ _
  refine wpAny_bind ?_
  refine wpAny_updateSeq hS' rfl (wpAny_bind (wpAny_letGo (wpAny_pure ?_)))
  refine hR vb _ tk (by rw[<-hin];exact hPb) fun b o hbw hbS e=>(Heap.get?_update_other _ _ (Ne.symm hbS)).trans (hk' b o hbw e)
 |succ k ih=>
  intro j s vb c hk hj hst hPb hS hR
  have hlt:j+1<n:=by omega
  refine codeAny_builtin F.entry_max_loop ?_
  rw[Around.under_plainId F.plain_max_loop _]
  show wpAny _ A.in1 (seqItems? (.ref S)>>=_) _ _ s
  refine wpAny_bind (wpAny_seqItems hS rfl ?_)
  show wpAny _ A.in1 (tryCatch (pyNext (.ref I)) _>>=_) _ _ s
  refine wpAny_bind (wpAny_tryCatch (W.item (j+1) s _ _ hlt hst fun v h' tk hP hst' hk'=>?_))
  have hS':=hk' S _ hSw hS
  show wpAny _ A.in1 (tryCatch (holding [v,v] (richCompare .Gt v vb>>=_)) _>>=_) _ _ _
  refine wpAny_bind (wpAny_tryCatch (wpAny_holding (wpAny_bind (hcmp (j+1) (argBest bt j) v vb _ _ _ hP hPb ?_))))
  refine wpAny_bind (wpAny_holding (wpAny_truthy_bool ?_))
  refine wpAny_bind (wpAny_letGo (wpAny_pure ?_))
  cases hb:bt (j+1) (argBest bt j)with
  |true=>
   simp only[if_true]
   refine wpAny_bind ?_
   refine wpAny_updateSeq hS' rfl (wpAny_bind (wpAny_letGo ?_))
   rw[hname]
   refine wpAny_pure ⟨plainId_quiet F.plain_max_loop _,ih (j+1) _ v _ (by omega) hlt (W.frame _ _ _ hst' fun b hbf o e=>?_) (by simp only[argBest,hb,if_true];exact hP) (Heap.get?_update_self _ hS' rfl)
    fun v' h'' tk'' hP' hk''=>?_⟩
   ·exact(Heap.get?_update_other _ _ (fun h:S=b=>hSf (by rw[h];exact hbf))).trans e
   ·exact hR v' h'' tk'' hP' fun b o hbw hbS e=>hk'' b o hbw hbS ((Heap.get?_update_other _ _ (Ne.symm hbS)).trans (hk' b o hbw e))
  |false=>
   simp only[Bool.false_eq_true,if_false]
   refine wpAny_bind (wpAny_letGo ?_)
   rw[hname]
   refine wpAny_pure ⟨plainId_quiet F.plain_max_loop _,ih (j+1) _ vb c (by omega) hlt hst' (by simp only[argBest,hb,Bool.false_eq_true,if_false];exact hPb) hS' fun v' h'' tk'' hP' hk''=>?_⟩
   exact hR v' h'' tk'' hP' fun b o hbw hbS e=>hk'' b o hbw hbS (hk' b o hbw e)
theorem maxD_first(W:Walks prog w A.in1 I fp wr n P St)(bt:Nat->Nat->Bool)(hcmp:CmpOf prog w A.in1 .Gt P bt)(S:Addr)(hSf:S ∉ fp)(hn:0<n){s:Shared}{c:Nat}(hst:St 0 s.heap)
  (hS:s.heap.get? S=some {cls:= .type "list",dict:=none,data:= .seq #[] c,slots:=#[]})
  (hR:∀v h' tk,P (argBest bt (n-1)) v->(∀b o,b ∉ wr->b≠S->s.heap.get? b=some o->h'.get? b=some o)->R (.ok (.ret v)) {s with heap:=h',toks:=tk}):
  codeAny (model prog w) A (.builtin "max.loop" ⟨[.ref I,.none,.ref S],[("default",d)]⟩) R s:=by
 have hSw:S ∉ wr:=fun h=>hSf (W.sub _ h)
 have hname:(toString "max"++toString ".loop":String)="max.loop":=by decide
 refine codeAny_builtin F.entry_max_loop ?_
 rw[Around.under_plainId F.plain_max_loop _]
 show wpAny _ A.in1 (seqItems? (.ref S)>>=_) _ _ s
 refine wpAny_bind (wpAny_seqItems hS rfl ?_)
 show wpAny _ A.in1 (tryCatch (pyNext (.ref I)) _>>=_) _ _ s
 refine wpAny_bind (wpAny_tryCatch (W.item 0 s _ _ hn hst fun v h' tk hP hst' hk'=>?_))
 have hS':=hk' S _ hSw hS
 show wpAny _ A.in1 (updateSeq S (fun _=>#[v,v])>>=_) _ _ _
 refine wpAny_bind ?_
 refine wpAny_updateSeq hS' rfl ?_
 rw[hname]
 refine wpAny_pure ⟨plainId_quiet F.plain_max_loop _,maxD_loop W bt hcmp S hSf _ 0 _ v _ rfl hn (W.frame _ _ _ hst' fun b hbf o e=>?_) hP (Heap.get?_update_self _ hS' rfl) fun v' h'' tk'' hP' hk''=>?_⟩
 ·exact(Heap.get?_update_other _ _ (fun h:S=b=>hSf (by rw[h];exact hbf))).trans e
 ·exact hR v' h'' tk'' hP' fun b o hbw hbS e=>hk'' b o hbw hbS ((Heap.get?_update_other _ _ (Ne.symm hbS)).trans (hk' b o hbw e))
theorem maxD_empty(W:Walks prog w A.in1 I fp wr n P St)(S:Addr)(hSf:S ∉ fp)(hn:n=0){s:Shared}{c:Nat}(hst:St 0 s.heap)
  (hS:s.heap.get? S=some {cls:= .type "list",dict:=none,data:= .seq #[] c,slots:=#[]})
  (hR:∀h' tk,(∀b o,b ∉ wr->s.heap.get? b=some o->h'.get? b=some o)->R (.ok (.ret d)) {s with heap:=h',toks:=tk}):
  codeAny (model prog w) A (.builtin "max.loop" ⟨[.ref I,.none,.ref S],[("default",d)]⟩) R s:=by
 subst hn
 refine codeAny_builtin F.entry_max_loop ?_
 rw[Around.under_plainId F.plain_max_loop _]
 show wpAny _ A.in1 (seqItems? (.ref S)>>=_) _ _ s
 refine wpAny_bind (wpAny_seqItems hS rfl ?_)
 show wpAny _ A.in1 (tryCatch (pyNext (.ref I)) _>>=_) _ _ s
 refine wpAny_bind (wpAny_tryCatch (W.done s _ _ hst fun h' tk hk'=>?_))
 exact wpAny_bind (wpAny_rule (wpAny_pure (hR h' tk hk')))
end
section
variable{prog:Program}{w:World}{A:Around}{E:Value->Shared->Prop}{s:Shared}
theorem argsMaxD(a v:Value):argsOk "max" ⟨[a],[(Str.ofString "default",v)]⟩:=by unfold argsOk;kernel_rfl
theorem call_maxD{x d:Value}{Q:Value->Shared->Prop}
  (h:wpAny (model prog w) A.in1 (pyIter x) (fun it s₂=>∃I fp wr n P St bt,it= .ref I/\Walks prog w A.in1 I fp wr n P St/\St 0 s₂.heap/\(∀b∈fp,b<s₂.heap.objs.size)/\CmpOf prog w A.in1 .Gt P bt/\
   (n=0->∀h' tk,(∀b o,b ∉ wr->s₂.heap.get? b=some o->h'.get? b=some o)->Q d {s₂ with heap:=h',toks:=tk})/\
   (0<n->∀v h' tk,P (argBest bt (n-1)) v->(∀b o,b ∉ wr->s₂.heap.get? b=some o->h'.get? b=some o)->Q v {s₂ with heap:=h',toks:=tk})) E s):
  wpAny (model prog w) A (call (.builtin "max") [x] [(Str.ofString "default",d)]) Q E s:=by
 have hname:(toString "max"++toString ".loop":String)="max.loop":=by decide
 refine kmk_tree F.kind_max F.plain_max F.entry_max (argsMaxD _ _) ?_
 show wpAny _ A.in1 (Builtin.Builtins.bindParams "max" ["key","default"] 0 ⟨[],[(Str.ofString "default",d)]⟩>>=_) _ _ s
 refine wpAny_bind (wpAny_of_eq (show Builtin.Builtins.bindParams "max" ["key","default"] 0 ⟨[],[(Str.ofString "default",d)]⟩=pure [none,some d]from rfl) ?_)
 refine wpAny_bind (wpAny_pure ?_)
 refine wpAny_bind (wpAny_mono h (fun it s₂ h₂=>?_) fun _ _ e=>e)
 obtain⟨I,fp,wr,n,P,St,bt,rfl,W,hst,hfp,hcmp,h0,hQ⟩:=h₂
 refine wpAny_bind (wpAny_newObj_type ?_)
 have hSf:s₂.heap.objs.size ∉ fp:=fun hm=>Nat.lt_irrefl _ (hfp _ hm)
 rw[hname]
 rcases Nat.eq_zero_or_pos n with hn|hn
 ·refine wpAny_pure ⟨plainId_quiet F.plain_max_loop _,maxD_empty W s₂.heap.objs.size hSf hn (W.frame _ _ _ hst fun b _ o e=>Heap.get?_push_of_some _ e) (Heap.get?_push_size _ rfl) fun h' tk hk=>?_⟩
  exact h0 hn h' tk fun b o hbw e=>hk b o hbw (Heap.get?_push_of_some _ e)
 ·refine wpAny_pure ⟨plainId_quiet F.plain_max_loop _,maxD_first W bt hcmp s₂.heap.objs.size hSf hn (W.frame _ _ _ hst fun b _ o e=>Heap.get?_push_of_some _ e) (Heap.get?_push_size _ rfl) fun v h' tk hP hk=>?_⟩
  exact hQ hn v h' tk hP fun b o hbw e=>hk b o hbw (Nat.ne_of_lt (Heap.lt_size e)) (Heap.get?_push_of_some _ e)
end
end PySem
namespace L2
open PySem PySem.Spec PyProof.Rows
def tMaxD(K:PySem.W.Frag)(d:Int)(ta:TE):TE:=fun σ H Q=>ta σ H fun x H1=>∃p,∃ns:List Int,x= .ref p/\SqL K H1 p (ns.map V.int)/\∀M,((ns=[]/\M=d)\/(M∈ns/\∀a∈ns,a<=M))->Q (.int M) H1
theorem boot_max:bootBuiltins "max"=some (.builtin "max"):=by decide+kernel
theorem pe_maxD{X:Cx}{a ed:Expr}{ta:TE}{d:Int}{p pos kpos:Pos}(hc:X.calm=true)(ha:PE X a ta)(hd:PE X ed (tC (.int d)))(hg:Gl X "max":=by rfl)(hm:X.mg "max"=none:=by rfl)(hs:starEach [a] X.env=[(false,eval a X.env)]:=by rfl):
  PE X (.Call (.Name "max" p) [a] [⟨some "default",ed,kpos⟩] pos) (tMaxD X.K d ta):=by
 intro pins s σ H Q I h
 refine wpAny_Call_Name_kw (ld_blt I hg hm boot_max ?_)
 refine callWith_kw (id:="max") (thn ((pa_cons ha pa_nil hs:PA X [a] (tCons ta tNil)) pos pins s σ H (only1 fun x H1=>∃p,∃ns:List Int,x= .ref p/\SqL X.K H1 p (ns.map V.int)/\∀M,((ns=[]/\M=d)\/(M∈ns/\∀a∈ns,a<=M))->Q (.int M) H1) I h) fun us s1⟨vs,H1,I1,r1,q1⟩=>?_) (by rw[hs];rfl) (by rw[hs];rfl)
 obtain⟨x1,rfl,q1⟩:=only1_of q1
 obtain⟨u1,rfl,ru⟩:=vals1 r1
 obtain⟨l,ns,rfl,hp,q⟩:=q1
 cases ru
 show wpAny _ _ (evalAll [(do let v<-eval ed X.env;standAt pos;pure v)]) _ _ s1
 refine wpAny_evalAll_cons (wpAny_bind (thn (hd pins s1 σ H1 (fun v H2=>v= .int d/\H2=H1) I1 ⟨rfl,rfl⟩) fun ud s2⟨v2,H2,I2,r2,e1,e2⟩=>wpAny_bind (wpAny_standAt (wpAny_pure (wpAny_evalAll_nil ?_)))))
 subst e1 e2
 obtain⟨td,rfl⟩:=r2
 show wpAny _ _ (call (.builtin "max") [.ref l] [(Str.ofString "default",.int d td)]) _ _ s2
 obtain⟨vs,rv,pl,hz⟩:=I2.list hp
 have hl:=pl.isList
 have hlt:l<s2.heap.objs.size:=by obtain⟨_,e,_⟩:=hl;exact Heap.lt_size e
 have hlen:vs.length=ns.length:=by have:=rv.length;simpa using this.symm
 have hval:∀i v,vs.toArray[i]?=some v->∃t,v=Value.int (ns.getD i 0) t:=by
  intro i v e
  have e':vs[i]?=some v:=by simpa using e
  have hi:i<ns.length:=by rw[<-hlen];exact(List.getElem?_eq_some_iff.mp e').1
  obtain⟨u,e2,r2⟩:=rv.get (i:=i) (x:= .int ns[i]) (by rw[List.getElem?_map,List.getElem?_eq_getElem hi];rfl)
  rw[e']at e2
  cases e2
  obtain⟨t,rfl⟩:=r2
  exact⟨t,by rw[List.getD_eq_getElem?_getD,List.getElem?_eq_getElem hi];rfl⟩
 have keep:∀(it:Obj)(h':Heap),(∀b o,b ∉ [s2.heap.objs.size]->(s2.heap.push it).get? b=some o->h'.get? b=some o)->∀b o,s2.heap.get? b=some o->h'.get? b=some o:=fun it h' hk b o e2=>hk b o (fun hm=>by
  rw[List.mem_singleton.mp hm]at e2
  exact Nat.lt_irrefl _ (Heap.lt_size e2)) (Heap.get?_push_of_some _ e2)
 refine call_maxD (wpAny_pyIter_list hl ?_)
 refine⟨s2.heap.objs.size,[s2.heap.objs.size,l],[s2.heap.objs.size],_,_,_,_,rfl,Walks.list (A:=X.A.in1) (I2.ok.hd hc) _ l (Nat.ne_of_lt hlt) vs.toArray,⟨⟨_,Heap.get?_push_size _ rfl,rfl,rfl⟩,hl.push _⟩,fun b hb=>?_,CmpOf.ints_gt (fun i=>ns.getD i 0) hval,fun hn h' tk hk=>?_,fun hn v h' tk hP hk=>?_⟩
 ·show b<(s2.heap.push _).objs.size
  rw[Heap.size_push]
  simp only[List.mem_cons,List.not_mem_nil,or_false]at hb
  rcases hb with rfl|rfl
  ·exact Nat.lt_succ_self _
  ·exact Nat.lt_succ_of_lt hlt
 ·rw[List.size_toArray,hlen]at hn
  exact⟨.int d,_,I2.kept (t':=tk) (keep _ _ hk),⟨td,rfl⟩,q d (.inl ⟨List.length_eq_zero_iff.mp hn,rfl⟩)⟩
 ·obtain⟨t,rfl⟩:=hval _ _ hP
  obtain⟨h1,h2⟩:=argBest_gt (fun i=>ns.getD i 0) (vs.toArray.size-1)
  rw[List.size_toArray,hlen]at h1 h2 hn
  rw[List.size_toArray,hlen]
  refine⟨.int _,_,I2.kept (t':=tk) (keep _ _ hk),⟨t,rfl⟩,q _ (.inr ⟨?_,fun a ha=>?_⟩)⟩
  ·have hlt:argBest (fun i j=>decide (ns.getD i 0>ns.getD j 0)) (ns.length-1)<ns.length:=by omega
   rw[List.getD_eq_getElem?_getD,List.getElem?_eq_getElem hlt]
   exact List.getElem_mem hlt
  ·obtain⟨j,hj,rfl⟩:=List.getElem_of_mem ha
   have:=h2 j (by omega)
   rw[List.getD_eq_getElem?_getD (i:=j),List.getElem?_eq_getElem hj]at this
   exact this
section
variable{X:Cx}
def gGetL:V->V->Hp->VK->Prop:=fun o i H Q=>∃p xs,∃k:Nat,∃v,o= .ref p/\i= .int (k:Int)/\H p=some (.lst xs)/\xs[k]?=some v/\Q v H
theorem get_list:PGet X gGetL:=by
 intro pins s σ H o i ov iv Q I ro ri h
 obtain⟨p,xs,k,v,rfl,rfl,hp,hv,q⟩:=h
 cases(show ov=Value.ref p from ro)
 obtain⟨t,rfl⟩:=ri
 obtain⟨its,r,pl,hz⟩:=I.list (SqL.of (K:=X.K) hp)
 obtain⟨w,ew,rw'⟩:=r.get hv
 have hk:k<xs.length:=(List.getElem?_eq_some_iff.mp hv).1
 have hn:=line63
 exact wpAny_getItem_list pl.isList (Int.natCast_nonneg k) (by omega) (by rw[Int.toNat_natCast];simpa using ew) ⟨v,H,I,rw',q⟩
def rSetN:V->V->V->Hp->(Hp->Prop)->Prop:=fun o i v H Q=>∃p xs,∃k:Nat,o= .ref p/\i= .int (k:Int)/\H p=some (.lst xs)/\k<xs.length/\Q (upd H p (.lst (xs.set k v)))
theorem set_listN:PSet X rSetN:=by
 intro pins s σ H o i v ov iv u Q I ro ri rv h
 obtain⟨p,xs,k,e1,e2,hp,hk,q⟩:=h
 refine set_list pins s σ H o i v ov iv u Q I ro ri rv ⟨p,xs,k,k,e1,e2,hp,?_,q⟩
 unfold ixN
 rw[if_pos (Int.natCast_nonneg k),if_pos (by omega),Int.toNat_natCast]
end
theorem ps_lc{X:Cx}{scope:Scope}{cl:List (Str×Addr)}{N:List Str}{bs:List (Option Nat)}{tg iter elt:Expr}{ifs:List Expr}{pos spos px:Pos}{x:Str}{wi:TI}{g gt:TG}{tt:TT}{te:TE}(B:Blk X scope cl N bs)(hc:X.calm=true)
  (hi:PI X tg iter wi)(hg:∀C fp s H,PG (cxBlk X scope cl C N fp s H) tg g) (ht:∀C fp s H,PTs (cxBlk X scope cl C N fp s H) ifs tt) (he:∀C fp s H,PE (cxBlk X scope cl C N fp s H) elt te)
  (hgt:PG X (.Name x px) gt) (hsw:swapsWith (.ListComp elt [⟨tg,iter,ifs,0⟩] scope pos) (some (.Name x px)) spos.line X.env=pure true)
  (hs:∀x,foldedSetIterable iter X.env x=pure x:=by intro _;rfl):
  PS X (.Assign [.Name x px] (.ListComp elt [⟨tg,iter,ifs,0⟩] scope pos) spos) (tAsg (tLC bs wi g tt te) gt):=by
 intro pins s σ H D I h
 rw[exec_Assign_Name_used _ _ _ _ hsw]
 refine wpAny_bind (wpAny_standAt (wpAny_bind ?_))
 show wpAny _ X.A (do let _<-comprehension (.ListComp elt [⟨tg,iter,ifs,0⟩] scope pos) scope X.env _ (newList []) false (eval iter X.env) (some (assign (.Name x px) X.env))) _ _ s
 refine wpAny_bind (wpAny_mono (wpAny_comprehension_free (use:=some (assign (.Name x px) X.env)) (Q:=fun _ s'=>∃σ' H',Inv X pins σ' H' s'/\D.nx σ' H') rfl hs B.clos B.kind B.names (thn (hi pins s σ H _ I h) fun v s1 h1=>thn h1 fun itv s2 h2=>?_)) (fun _ s' hq=>wpAny_pure (wpAny_pure hq)) fun _ _ e=>e)
 obtain⟨it,fp,tn,J,H2,rfl,I2,T,st2,f2,W,⟨m0,w0⟩,turn⟩:=h2
 refine wpAny_newObj_type (wpAny_newFunctionEnv B.cell (by intro y hy;simp at hy) (fun h₁ hns₁ hsb₁=>?_) B.kind)
 dsimp only at hns₁ hsb₁⊢
 generalize hG:s2.heap.push {cls:= .type "list",dict:=none,data:= .seq ([]:List Value).toArray}=G at hns₁ hsb₁⊢
 have hC:G.objs.size=s2.heap.objs.size+1:=by rw[<-hG,Heap.size_push]
 have hDC:s2.heap.objs.size≠G.objs.size:=by rw[hC];exact Nat.ne_of_lt (Nat.lt_succ_self _)
 have hCle:s2.heap.objs.size<=G.objs.size:=by rw[hC];exact Nat.le_succ _
 have old:∀b o,s2.heap.get? b=some o->h₁.get? b=some o:=fun b o e=>hsb₁.extBut b o (by rw[hC];exact Nat.ne_of_lt (Nat.lt_succ_of_lt (Heap.lt_size e))) (Heap.get?_push_of_some _ (hG▸Heap.get?_push_of_some _ e))
 have hacc:h₁.get? s2.heap.objs.size=some {cls:= .type "list",data:= .seq ([]:List Value).toArray 0}:=hsb₁.extBut _ _ hDC (Heap.get?_push_of_some _ (hG▸Heap.get?_push_size _ rfl))
 have stat:∀{D:Addr}{o:Obj}{H':Hp},s2.heap.objs.size<=D->(∀b∈fp,H' b=none)->∀b∈fp,FpOk (cxBlk X scope cl G.objs.size N fp s2 H2) [(D,o)] H' b:=fun{D o H'} hD hn b hb=>by
  obtain⟨ob,eb,_⟩:=T.obj _ _ st2 b hb
  obtain⟨_,f1,f3,f4,f5,_⟩:=f2 b hb
  have ok:=B.ok I2 f2 (T.obj _ _ st2) (C:=G.objs.size) hCle
  refine⟨hn b hb,(ok.exf b hb).1,ok.exfs b hb,.inl hb,(ok.exf b hb).2,fun p hp=>?_⟩
  have e:p=(D,o):=by simpa[cxBlk]using hp
  subst e
  exact Nat.ne_of_gt (Nat.lt_of_lt_of_le (Heap.lt_size eb) hD)
 have loop:∀s₃:Shared,s₃={s2 with heap:=h₁,toks:=s2.toks+([]:List (Str×Value)).length}->
   codeAny (model X.prog X.w) X.A (.compLoop (.ListComp elt [⟨tg,iter,ifs,0⟩] scope pos) 0 (.ref it) (.ref s2.heap.objs.size) (compEnvC scope cl G.objs.size X.env))
    (compPost (model X.prog X.w) X.A X.xe (some (assign (.Name x px) X.env)) (fun _ s'=>∃σ' H',Inv X pins σ' H' s'/\D.nx σ' H') (.ref s2.heap.objs.size) G.objs.size) s₃:=by
  rintro s₃ rfl
  refine codeAny_compLoop_go (fun n s'=>∃i ys its k σ' H',Inv (cxBlk X scope cl G.objs.size N fp s2 H2) [(s2.heap.objs.size,{cls:= .type "list",data:= .seq (List.toArray its) k})] σ' H' s'/\Vals ys its/\tn i s'.heap/\(∀b∈fp,H' b=none)/\W i n ys σ' H') ?_ m0
   ⟨0,[],[],0,bst bs σ,H2,B.inv I2 f2 (T.obj _ _ st2) hCle old hns₁ hacc (Nat.le_refl _) hDC (fun v z=>nomatch z),.nil,T.keep _ _ _ st2 fun b _ o e=>old b o e,fun b hb=>(f2 b hb).1,w0⟩
  rintro n s3 ⟨i,ys,its,k,σ3,H3,I3,rv,st3,fr3,w3⟩
  have pD:=I3.pin _ (List.mem_append_right _ (.head _))
  rcases turn i n ys σ3 H3 w3 with⟨stop,hz,qn⟩|⟨go,hz,NN,hNN,step⟩
  ·refine thn (T.done (cxBlk X scope cl G.objs.size N fp s2 H2) rfl rfl rfl hc i _ s3 σ3 H3 (fun _ _=>False) I3 (stat (Nat.le_refl _) fr3) st3 stop) fun r s4⟨hr,I4⟩=>?_
   subst hr
   have pD4:=I4.pin _ (List.mem_append_right _ (.head _))
   obtain⟨m4,hn4,_⟩:=I4.loc
   have hD5:s4.heap.get? s2.heap.objs.size=some {cls:= .type "list",data:= .seq (List.toArray its) k}:=pD4.1
   have k5:∀b o,b≠G.objs.size->s4.heap.get? b=some o->s4.heap.get? b=some o:=fun b o hb e=>e
   have hC4:H3 G.objs.size=none:=I4.free
   have hok4:HOk X.prog X.w H3 s4.heap:=I4.hok
   have hok5:HOk X.prog X.w (upd H3 s2.heap.objs.size (.lst ys)) s4.heap:=fun b u e=>by
    by_cases hb:b=s2.heap.objs.size
    ·subst hb
     rw[upd_same]at e
     cases e
     exact⟨hz,its,k,rv,hD5⟩
    ·rw[upd_ne hb]at e
     have nC:∀c u',H3 c=some u'->c≠G.objs.size:=fun c u' q z=>by rw[z,hC4]at q;cases q
     have nD:∀c u',H3 c=some u'->c≠s2.heap.objs.size:=fun c u' q z=>by rw[z,pD4.2.1]at q;cases q
     refine(hok4 b u e).stay (fun c v hc' q=>k5 c v ?_ q) (fun c q=>by rw[upd_ne (nD c _ q)];exact q) fun c xs q=>by rw[upd_ne (nD c _ q)];exact q
     rcases hc' with z|z
     ·rw[z];exact nC b u e
     ·exact nC c _ z
   have un4:Un (frs X.stack) fp H2 H3 s2.heap s4.heap:=I4.base
   have neC:∀b o,s2.heap.get? b=some o->b≠G.objs.size:=fun b o e=>Nat.ne_of_lt (Nat.lt_of_lt_of_le (Heap.lt_size e) hCle)
   have neD:∀b o,s2.heap.get? b=some o->b≠s2.heap.objs.size:=fun b o e=>Nat.ne_of_lt (Heap.lt_size e)
   have un5:Un (frs X.stack) fp H2 (upd H3 s2.heap.objs.size (.lst ys)) s2.heap s4.heap:={
    keep:=fun b o e n hb hx=>k5 b o (neC b o e) (un4.keep b o e n hb hx)
    slot:=fun b o e n hb hx=>let⟨sl,q⟩:=un4.slot b o e n hb hx;⟨sl,k5 b _ (neC b o e) q⟩
    free:=fun b o e n hx=>by rw[upd_ne (neD b o e)];exact un4.free b o e n hx
    there:=fun b o e hx=>let⟨o',q⟩:=un4.there b o e hx;⟨o',k5 b _ (neC b o e) q⟩
    tups:=fun b xs e=>by rw[upd_ne (ne_of_none e (I2.hok.fresh (Nat.le_refl _)))];exact un4.tups b xs e
    frzs:=fun b o u e=>by rw[upd_ne (ne_of_none e (I2.hok.fresh (Nat.le_refl _)))];exact un4.frzs b o u e
    tbls:=fun b ps e=>by rw[upd_ne (ne_of_none e (I2.hok.fresh (Nat.le_refl _)))];exact un4.tbls b ps e}
   have IE:Inv X pins σ (upd H3 s2.heap.objs.size (.lst ys)) s4:=I2.call' (s':=s4) ((show s4.os=s2.os from I4.os)) un5 hok5 I4.bare (fun b hb=>by
    obtain⟨_,f1,f3,f4,f5,f6⟩:=f2 b hb
    exact⟨f4,f1,f5,f6⟩)
   have hnC:(upd H3 s2.heap.objs.size (.lst ys)) G.objs.size=none:=by rw[upd_ne (Ne.symm hDC)];exact hC4
   obtain⟨_,c1,c2,c3,c4,c5⟩:FpOk X pins (upd H3 s2.heap.objs.size (.lst ys)) G.objs.size:=I2.fpOk hCle hnC
   obtain⟨oC,es4,ep4,hoC,rC⟩:=hn4
   have IP:Inv X (pins++[(G.objs.size,oC)]) σ (upd H3 s2.heap.objs.size (.lst ys)) s4:=IE.pins_of fun p hp=>by
    rcases List.mem_append.mp hp with z|z
    ·exact IE.pin p (List.mem_append_right _ z)
    ·rw[List.mem_singleton.mp z]
     exact⟨hoC,hnC,c1,c2,fun v z=>by rw[rC.1]at z;cases z⟩
   refine thn (hgt (pins++[(G.objs.size,oC)]) s4 σ _ (.ref s2.heap.objs.size) (.ref s2.heap.objs.size) _ IP rfl (qn _ pD4.2.1)) fun _ s6⟨σ6,H6,I6,q6⟩=>?_
   have pC:=I6.pin (G.objs.size,oC) (List.mem_append_right _ (List.mem_append_right _ (.head _)))
   refine⟨m4,⟨oC,es4,ep4,pC.1,rC⟩,fun h7 sb7=>⟨σ6,H6,(I6.unpinned).turned (it:=G.objs.size) (t':=s6.toks) (fun b o hb e=>sb7.extBut b o hb e) pC.2.1 c1 c3 c4 c5,q6⟩⟩
  ·refine thn (T.item (cxBlk X scope cl G.objs.size N fp s2 H2) rfl rfl rfl hc i _ s3 σ3 H3 (fun _ _=>False) I3 (stat (Nat.le_refl _) fr3) st3 go) fun r s4⟨u,hr,h4⟩=>?_
   subst hr
   refine thn h4 fun _ s5⟨x,H5,I5,r5,y5,st5,fr5⟩=>?_
   have I5':=I5.pinned (stat (Nat.le_refl _) fr5) (T.obj _ _ st5)
   refine thn (hg _ _ _ _ _ s5 σ3 H5 x u _ I5' r5 (step x H5 y5)) fun _ s6⟨σ6,H6,I6,q6⟩=>?_
   refine thn (ht _ _ _ _ _ s6 σ6 H6 _ I6 q6) fun ok s7⟨H7,I7,q7⟩=>?_
   have back:∀{σ8:St}{H8:Hp}{s8:Shared}{pl:List (Addr×Obj)},Inv (cxBlk X scope cl G.objs.size N fp s2 H2) (pl++pinsAt fp s5.heap) σ8 H8 s8->tn (i+1) s8.heap/\∀b∈fp,H8 b=none:=fun{σ8 H8 s8 pl} I8=>
    ⟨T.keep _ _ _ st5 fun b hb o e=>(I8.pin (b,o) (List.mem_append_right _ (List.mem_append_right _ (mem_pinsAt hb e)))).1,fun b hb=>by
     obtain⟨o,e,d⟩:=T.obj _ _ st5 b hb
     exact(I8.pin (b,o) (List.mem_append_right _ (List.mem_append_right _ (mem_pinsAt hb e)))).2.1⟩
   cases ok with
   |false=>
    rw[if_neg Bool.false_ne_true]at q7⊢
    obtain⟨m',hm,w7⟩:=hNN _ _ _ q7
    exact⟨m',hm,i+1,ys,its,k,σ6,H7,I7.unpinned,rv,(back I7).1,(back I7).2,w7⟩
   |true=>
    rw[if_pos rfl]at q7⊢
    refine thn (he _ _ _ _ _ s7 σ6 H7 _ I7 q7) fun y s8⟨v8,H8,I8,r8,q8⟩=>?_
    obtain⟨m',hm,w8⟩:=hNN _ _ _ q8
    have pD8:=I8.pin _ (List.mem_append_right _ (List.mem_append_left _ (.head _)))
    have hl:=rv.length
    refine wpAny_list_append_plain ⟨k,pD8.1⟩ (fun h9 pl9 sb9=>?_) (by rw[List.size_toArray];omega)
    obtain⟨k9,e9⟩:=pl9
    have e9':h9.get? s2.heap.objs.size=some {cls:= .type "list",data:= .seq (List.toArray (its++[y])) k9}:=by rw[e9];simp
    have I8':Inv (cxBlk X scope cl G.objs.size N fp s2 H2) (pinsAt fp s5.heap) σ6 H8 s8:=I8.pins_of fun p hp=>I8.pin p (List.mem_append_right _ (List.mem_append_right _ hp))
    have I9:Inv (cxBlk X scope cl G.objs.size N fp s2 H2) (pinsAt fp s5.heap) σ6 H8 {s8 with heap:=h9}:=I8'.turned (it:=s2.heap.objs.size) (t':=s8.toks) (fun b o hb e=>sb9.extBut b o hb e) pD8.2.1 pD8.2.2.1 (.inr (Nat.le_refl _))
     (fun x c e z=>by
      obtain⟨vc,oc,hoc,hd⟩:=I8.cell x c e
      rw[z,pD8.1]at hoc
      cases hoc
      cases hd)
     fun p hp z=>by
      have hp':p∈pinsAt fp s5.heap:=by simpa[cxBlk]using hp
      obtain⟨q1,q2⟩:=of_pinsAt hp'
      obtain⟨ob,eb,_⟩:=T.obj _ _ st2 p.1 q1
      exact Nat.lt_irrefl _ (by have:=Heap.lt_size eb;rw[z]at this;exact this)
    have hk9:∀b∈fp,∀o,s8.heap.get? b=some o->h9.get? b=some o:=fun b hb o e=>sb9.extBut b o (fun z=>by
     obtain⟨ob,eb,_⟩:=T.obj _ _ st2 b hb
     exact Nat.lt_irrefl _ (by have:=Heap.lt_size eb;rw[z]at this;exact this)) e
    refine⟨m',hm,i+1,ys++[v8],its++[y],k9,σ6,H8,I9.pins_of fun p hp=>?_,rv.append (.cons r8 .nil),T.keep _ _ _ (back I8).1 hk9,(back I8).2,w8⟩
    have e:p=(s2.heap.objs.size,{cls:= .type "list",data:= .seq (List.toArray (its++[y])) k9}):=by simpa using hp
    subst e
    exact⟨e9',pD8.2.1,pD8.2.2.1,pD8.2.2.2.1,fun v z=>nomatch z⟩
 exact codeAny_compStart_list (loop _ rfl) (T.self _ 0 _ _ _ (T.keep _ _ _ st2 fun b _ o e=>old b o e) (loop _ rfl))
theorem ps_lcR{X:Cx}{scope:Scope}{cl:List (Str×Addr)}{N:List Str}{bs:List (Option Nat)}{tg a elt:Expr}{ifs:List Expr}{p pos' pos spos px:Pos}{x:Str}{ta:TA}{g gt:TG}{tt:TT}{te:TE}(B:Blk X scope cl N bs)(hc:X.calm=true)
  (hgl:Gl X "range")(hmr:X.mg "range"=none)(ha:PA X [a] ta)(hm:MonoA ta)(hpl:plainE a=true)(hg:∀C fp s H,PG (cxBlk X scope cl C N fp s H) tg g) (ht:∀C fp s H,PTs (cxBlk X scope cl C N fp s H) ifs tt) (he:∀C fp s H,PE (cxBlk X scope cl C N fp s H) elt te)
  (hgt:PG X (.Name x px) gt) (hsw:swapsWith (.ListComp elt [⟨tg,.Call (.Name "range" p) [a] [] pos',ifs,0⟩] scope pos) (some (.Name x px)) spos.line X.env=pure true)
  (hs:∀x,foldedSetIterable (.Call (.Name "range" p) [a] [] pos') X.env x=pure x:=by intro _;rfl):PS X (.Assign [.Name x px] (.ListComp elt [⟨tg,.Call (.Name "range" p) [a] [] pos',ifs,0⟩] scope pos) spos) (tAsg (tLCR bs ta g tt te) gt):=by
 intro pins s σ H D I h
 refine @ps_lc X scope cl N bs tg _ elt ifs pos spos px x (iRng1 ta) g gt tt te B hc (@pi_range1 X tg a ta p pos' hgl hmr ha (star_cons hpl)) hg ht he hgt hsw hs pins s σ H D I ?_
 refine hm σ H _ _ (fun vs H1 h=>?_) h
 obtain⟨n,e,hz,Pv,p0,pl,ps,pd⟩:=h
 refine⟨(n:Int),e,by omega,by omega,?_⟩
 rw[Int.toNat_natCast]
 exact lc_range (Q:=fun x H1=>gt x σ H1 D.nx) Pv (leMil hz) p0 pl ps fun ys σ H hp p hpn=>pd ys σ H hp p _ (same_add hpn) upd_same
end L2
namespace PySem
open Sem (wp)
open PyProof.Rows
section
variable{prog:Program}{w:World}{A:Around}{E:Value->Shared->Prop}{s:Shared}
theorem lri_len:typeLookup (.type "list_reverseiterator") "__len__"=pure none:=by rw[typeLookup_type,builtinLookup_eq_fast];kernel_rfl
theorem lri_hint:typeLookup (.type "list_reverseiterator") "__length_hint__"=pure (some (.builtin "list_reverseiterator.__length_hint__")):=by rw[typeLookup_type,builtinLookup_eq_fast];kernel_rfl
theorem hint_rev{it l:Addr}{i:Int}{Q:Bool->Shared->Prop}(hit:s.heap.IsRevIter it l i)(h:Q false s):wpAny (model prog w) A (Builtin.List.listLengthHint (.ref it)) Q E s:=by
 have hT:=Heap.IsRevIter.typeIs hit
 unfold Builtin.List.listLengthHint
 refine wpAny_bind (wpAny_specialOf hT lri_len ?_)
 refine wpAny_bind (wpAny_specialOf hT lri_hint ?_)
 generalize hid:("list_reverseiterator.__length_hint__":String)=id0
 wp_delta
 rw[show splitId id0=some ("list_reverseiterator","__length_hint__")from by subst hid;decide+kernel]
 subst hid
 refine wpAny_bind (wpAny_isInstance (T:="list_reverseiterator") (b:=true) hT (by rw[isSubtype_type];kernel_rfl) ?_)
 refine wpAny_ite_split (fun hab=>absurd hab (by decide)) (fun _=>?_)
 refine wpAny_ite_split (fun _=>?_) (fun hab=>absurd (by decide+kernel) hab)
 refine wpAny_ite_split (fun hab=>absurd hab (by decide+kernel)) (fun _=>?_)
 exact wpAny_pure h
theorem extend_rev{R:Result->Shared->Prop}{it l:Addr}{items:Array Value}(hh:A.handled=none)(hne:l≠it)(hit:s.heap.IsRevIter it l ((items.size:Int)-1))(hl:s.heap.IsList l items)(hlen:items.size<=sizeLine)
  (S:Addr)(hSl:S≠l)(res:Value)(c₀:Nat)(hS:s.heap.get? S=some {cls:= .type "list",data:= .seq #[] c₀})
  (hR:∀h' tk acc' c',(∀b o,b≠S->b≠it->s.heap.get? b=some o->h'.get? b=some o)->h'.get? S=some {cls:= .type "list",dict:=none,data:= .seq acc' c',slots:=#[]}->
   ItemsOf (fun i v=>items[items.size-1-i]?=some v) acc' items.size->R (.ok (.ret res)) {s with heap:=h',toks:=tk}):
  wpAny (model prog w) A.in1 (Builtin.List.listExtendWith (.ref S) (.ref it) res)
   (fun fin s'=>match fin with| .done f=>R (.ok f) s'| .again c'=>c'.quiet=true/\codeAny (model prog w) A c' R s') (fun e s'=>R (.error e) s') s:=by
 have hT:=Heap.IsRevIter.typeIs hit
 have hSr:S≠it:=fun e=>by
  obtain⟨o,ho,hc,_⟩:=hit
  rw[<-e,hS]at ho
  cases ho
  exact absurd (show Value.type "list"=Value.type "list_reverseiterator" from hc) (by decide)
 have hSf:S ∉ [it,l]:=fun hm=>by
  rcases List.mem_cons.mp hm with z|z
  ·exact hSr z
  ·exact hSl (List.mem_singleton.mp z)
 have W:=(Walks.listRev (prog:=prog) (w:=w) (A:=A.in1) hh it l hne items).toS
 unfold Builtin.List.listExtendWith
 refine wpAny_bind (wpAny_typeOf (T:="list_reverseiterator") hT ?_)
 have h1:Builtin.List.listSameRef (.ref S) (.ref it)=false:=by simp[Builtin.List.listSameRef,hSr]
 have h2:(Value.type "list_reverseiterator"==Value.type "list")=false:=by decide
 have h3:(Value.type "list_reverseiterator"==Value.type "tuple")=false:=by decide
 simp only[h1,h2,h3,Bool.or_false,Bool.false_eq_true,if_false]
 refine wpAny_bind (wpAny_pyIter_revIter hit ?_)
 refine wpAny_bind (wpAny_holding (hint_rev hit ?_))
 refine wpAny_ite_split (fun hab=>absurd hab (by decide)) (fun _=>wpAny_pure ⟨plainId_quiet F.plain_extend_loop _,?_⟩)
 refine codeAny_extend_loopS W hlen S hSf res items.size 0 _ #[] c₀ rfl (Nat.zero_le _) ⟨Nat.zero_le _,by simpa using hit,hl⟩ hS (ItemsOf.nil _) fun s' acc' c' hm hS' hacc=>?_
 rw[Moved.eq_with hm]
 refine hR s'.heap s'.toks acc' c' (fun b o hb hb2 e=>hm.heap b o (fun hmem=>?_) e) hS' hacc
 rcases List.mem_cons.mp hmem with e'|hmem
 ·exact hb e'
 ·exact hb2 (List.mem_singleton.mp hmem)
theorem list_init_rev{R:Result->Shared->Prop}{it l:Addr}{items:Array Value}(hh:A.handled=none)(hne:l≠it)(hit:s.heap.IsRevIter it l ((items.size:Int)-1))(hl:s.heap.IsList l items)(hlen:items.size<=sizeLine)
  (S:Addr)(hSl:S≠l)(hSr:S≠it)(hS:s.heap.get? S=some {cls:= .type "list",data:= .seq #[]})
  (hR:∀h' tk acc' c',(∀b o,b≠S->b≠it->s.heap.get? b=some o->h'.get? b=some o)->h'.get? S=some {cls:= .type "list",dict:=none,data:= .seq acc' c',slots:=#[]}->
   ItemsOf (fun i v=>items[items.size-1-i]?=some v) acc' items.size->R (.ok (.ret .none)) {s with heap:=h',toks:=tk}):
  wpAny (model prog w) A.in1 (Builtin.«list.__init__» ⟨[.ref S,.ref it],[]⟩)
   (fun fin s'=>match fin with| .done f=>R (.ok f) s'| .again c'=>c'.quiet=true/\codeAny (model prog w) A c' R s') (fun e s'=>R (.error e) s') s:=by
 show wpAny _ _ (do let old<-Builtin.List.listItems (.ref S);Builtin.List.listUpdate (.ref S) (fun _=>#[]);letGo old.toList.reverse;Builtin.List.listExtendWith (.ref S) (.ref it) .none) _ _ s
 refine wpAny_bind ?_
 unfold Builtin.List.listItems
 refine wpAny_bind (wpAny_seqItems hS rfl (wpAny_pure ?_))
 show wpAny _ _ (updateSeq S (fun _=>#[])>>=fun _=>letGo (#[]:Array Value).toList.reverse>>=fun _=>Builtin.List.listExtendWith (.ref S) (.ref it) .none) _ _ s
 refine wpAny_bind (wpAny_updateSeq hS rfl ?_)
 have hS₂:=Heap.get?_update_self (Obj.mapSeq (fun _=>(#[]:Array Value))) hS rfl
 have oth:∀b o,b≠S->s.heap.get? b=some o->(s.heap.update S (Obj.mapSeq (fun _=>(#[]:Array Value)))).get? b=some o:=
  fun b o hb e=>(Heap.get?_update_other _ _ (Ne.symm hb)).trans e
 refine wpAny_bind (wpAny_letGo ?_)
 refine extend_rev hh hne (hit.at fun o e=>oth it o (Ne.symm hSr) e) (hl.at fun o e=>oth l o (Ne.symm hSl) e) hlen S hSl .none _ hS₂ fun h' tk acc' c' hk hS' hacc=>?_
 exact hR h' tk acc' c' (fun b o hb hb2 e=>hk b o hb hb2 (oth b o hb e)) hS' hacc
theorem call_list_rev{Q:Value->Shared->Prop}{it l:Addr}{items:Array Value}(hh:A.handled=none)(hne:l≠it)(hit:s.heap.IsRevIter it l ((items.size:Int)-1))(hl:s.heap.IsList l items)(hlen:items.size<=sizeLine)
  (hQ:∀h' tk acc' c',(∀b o,b≠it->s.heap.get? b=some o->h'.get? b=some o)->
   h'.get? s.heap.objs.size=some {cls:= .type "list",dict:=none,data:= .seq acc' c',slots:=#[]}->ItemsOf (fun i v=>items[items.size-1-i]?=some v) acc' items.size->Q (.ref s.heap.objs.size) {s with heap:=h',toks:=tk}):
  wpAny (model prog w) A (call (.type "list") [.ref it]) Q E s:=by
 refine callType_codes (Q₁:=fun obj s₁=>obj= .ref s.heap.objs.size/\s₁={s with heap:=s.heap.push {cls:= .type "list",data:= .seq #[]}}) F.called_list (F.typeCall_list_1 _) F.entry_list_init
  (code_list_new _ ⟨rfl,rfl⟩) fun obj s₁ h₁=>?_
 obtain⟨rfl,rfl⟩:=h₁
 have hS:(s.heap.push {cls:= .type "list",data:= .seq #[]}).get? s.heap.objs.size=some {cls:= .type "list",data:= .seq #[]}:=Heap.get?_push_size _ rfl
 have lt1:l<s.heap.objs.size:=by obtain⟨o,ho,_⟩:=hl;exact Heap.lt_size ho
 have lt2:it<s.heap.objs.size:=by obtain⟨o,ho,_⟩:=hit;exact Heap.lt_size ho
 refine⟨⟨_,hS,rfl⟩,F.args_list_init_2 _ _,list_init_rev (A:=A.in1) hh hne (hit.at fun o e=>Heap.get?_push_of_some _ e) (hl.push _) hlen s.heap.objs.size (Nat.ne_of_gt lt1) (Nat.ne_of_gt lt2) hS fun h' tk acc' c' hk hS' hacc=>?_⟩
 exact⟨rfl,hQ h' tk acc' c' (fun b o hb e=>hk b o (Nat.ne_of_lt (Heap.lt_size e)) hb (Heap.get?_push_of_some _ e)) hS' hacc⟩
end
end PySem
namespace L2
open PySem PySem.Spec PyProof.Rows
theorem boot_list:bootBuiltins "list"=some (.type "list"):=by decide+kernel
theorem boot_rev:bootBuiltins "reversed"=some (.type "reversed"):=by decide+kernel
def tRev(K:PySem.W.Frag)(ta:TE):TE:=fun σ H Q=>ta σ H fun x H1=>∃l xs,x= .ref l/\SqL K H1 l xs/\∀d H',Same H1 H'->H' d=some (.lst xs.reverse)->Q (.ref d) H'
theorem pe_listRev{X:Cx}{a:Expr}{ta:TE}{p1 p2 pos1 pos2:Pos}(hc:X.calm=true)(ha:PE X a ta)(hg:Gl X "list":=by rfl)(hm:X.mg "list"=none:=by rfl)(hg2:Gl X "reversed":=by rfl)(hm2:X.mg "reversed"=none:=by rfl)(hpl:plainE a=true:=by rfl):
  PE X (.Call (.Name "list" p1) [.Call (.Name "reversed" p2) [a] [] pos2] [] pos1) (tRev X.K ta):=by
 intro pins s σ H Q I h
 refine wpAny_Call_Name_kw (ld_blt I hg hm boot_list ?_)
 refine callWith_type1 ?_ rfl rfl
 show wpAny _ _ (spliced ((false,eval (.Call (.Name "reversed" p2) [a] [] pos2) X.env)::backTo pos1 (starEach [] X.env))) _ _ s
 refine Calls.spliced_cons ?_
 refine wpAny_Call_Name_kw (ld_blt I hg2 hm2 boot_rev ?_)
 refine callWith_type1 (thn ((pa_c ha pa_nil hpl:PA X [a] (tCons ta tNil)) pos2 pins s σ H (only1 fun x H1=>∃l xs,x= .ref l/\SqL X.K H1 l xs/\∀d H',Same H1 H'->H' d=some (.lst xs.reverse)->Q (.ref d) H') I h) fun us s1⟨vs,H1,I1,r1,q1⟩=>?_) (star_cons hpl) rfl
 obtain⟨x1,rfl,q1⟩:=only1_of q1
 obtain⟨u1,rfl,ru⟩:=vals1 r1
 obtain⟨l,xs,rfl,hp,q⟩:=q1
 cases ru
 obtain⟨vs,rv,pl,hz⟩:=I1.list hp
 have hl:=pl.isList
 have hlt:l<s1.heap.objs.size:=by obtain⟨_,e,_⟩:=hl;exact Heap.lt_size e
 have hlen:=rv.length
 refine call_reversed_list hl ?_
 refine Calls.spliced_nil ?_
 refine call_list_rev (items:=vs.toArray) (I1.ok.hd hc) (Nat.ne_of_lt hlt) ⟨_,Heap.get?_push_size _ rfl,rfl,rfl⟩ (hl.push _) (by rw[List.size_toArray];omega) fun h' tk acc' c' kp e2 it=>?_
 obtain⟨i1,i2⟩:=it
 rw[List.size_toArray]at i1 i2
 have hsz:(s1.heap.push (revObj l ((vs.toArray.size:Int)-1))).objs.size=s1.heap.objs.size+1:=Heap.size_push ..
 have hv:Vals xs.reverse acc'.toList:=vals_of_get (by rw[List.length_reverse,Array.length_toList];exact hlen.trans i1.symm) fun i x u e3 e4=>by
  have e5:acc'[i]?=some u:=by simpa using e4
  have e6:=i2 i u e5
  have hi:i<xs.length:=by
   have:=(List.getElem?_eq_some_iff.mp e3).1
   rwa [List.length_reverse]at this
  rw[List.getElem?_reverse hi]at e3
  obtain⟨u',g1,g2⟩:=rv.get e3
  have e7:vs[vs.length-1-i]?=some u:=by simpa using e6
  rw[hlen,e7]at g1
  cases g1
  exact g2
 refine⟨.ref _,_,I1.laid (t':=tk) (o:= .lst xs.reverse) (a:=(s1.heap.push (revObj l ((vs.toArray.size:Int)-1))).objs.size) (fun b o e=>kp b o (Nat.ne_of_lt (Heap.lt_size e)) (Heap.get?_push_of_some _ e)) (by rw[hsz];exact Nat.le_succ _) ?_,rfl,q _ _ (same_add (I1.hok.fresh (by rw[hsz];exact Nat.le_succ _))) upd_same⟩
 exact⟨by rw[List.length_reverse];exact hz,acc'.toList,c',hv,by rw[e2]⟩
end L2
namespace SetI
open PySem PySem.Spec PyProof.Rows
section
variable{prog:Program}{w:World}{A:Around}{E:Value->Shared->Prop}{s:Shared}
theorem call_set_tupI{l:Addr}{items:Array Value}{ns:List Int}{Q:Value->Shared->Prop}
  (hh:A.handled=none)(hl:s.heap.IsTuple l items)(hi:PyProof.Rows.IntsAre items.toList ns)(hb:items.size+1<scanBound)
  (h:∀(h':Heap)(tk:Nat),h'.SetOf (intKind prog w) s.heap.objs.size (fun k'=>(PyProof.Rows.firstMet (fun i=>ns.getD i 0) items.size).any (·==k')) (PyProof.Rows.firstMet (fun i=>ns.getD i 0) items.size).length->
   (∀b o,b<s.heap.objs.size->s.heap.get? b=some o->h'.get? b=some o)->Q (.ref s.heap.objs.size) {s with heap:=h',toks:=tk}):
  wpAny (model prog w) A (call (.type "set") [.ref l]) Q E s:=by
 obtain⟨c,tl,hmro⟩:=F.called_set.mro
 have hmade:=F.called_set.made
 have hsub:=F.called_set.sub
 refine wpAny_call (codeAny_of_tree ?_)
 show wpAny _ _ (callAny (.type "set") _) _ _ _
 refine wpAny_pure ⟨Code.quiet_builtin _ (by decide+kernel),codeAny_builtin F.entry_type_call ?_⟩
 rw[Around.under_plain (weight_type_call_type "set" [.ref l] []) rfl]
 have h1:=F.called_set.notType
 have h2:=F.called_set.canCreate
 have hct:=F.typeCall_set_1 (.ref l)
 repeat (any_goals (first|assumption|wp_step))
 refine codeAny_mono (code_set_new_1 (.ref l) (E:=E) (Q₁:=fun obj s₁=>∃led:Bool,obj= .ref s.heap.objs.size/\s₁={s with heap:=s.heap.push {cls:= .type "set",dict:=none,data:= .set #[] 0 (.fresh 0 0 led)}}) fun led=>⟨led,rfl,rfl⟩) fun r s₁ hr=>?_
 cases r with
 |error e=>exact hr
 |ok fl=>
  cases fl with
  |ret obj=>
   obtain⟨led,rfl,rfl⟩:=hr
   have hS:(s.heap.push {cls:= .type "set",dict:=none,data:= .set #[] 0 (.fresh 0 0 led)}).get? s.heap.objs.size=some {cls:= .type "set",dict:=none,data:= .set #[] 0 (.fresh 0 0 led)}:=Heap.get?_push_size _ rfl
   have hT:Shared.TypeIs {s with heap:=s.heap.push {cls:= .type "set",dict:=none,data:= .set #[] 0 (.fresh 0 0 led)}} (.ref s.heap.objs.size) "set":=⟨_,hS,rfl⟩
   have hli:=F.called_set.init.lookup
   have hbi:=F.called_set.init.bind (.ref s.heap.objs.size)
   repeat (any_goals (first|assumption|wp_step))
   refine codeAny_mono (codeAny_call_builtin (R:=wants (fun r s₂=>r= .none/\∃h' tk,s₂={s with heap:=h',toks:=tk}/\
     h'.SetOf (intKind prog w) s.heap.objs.size (fun k'=>(PyProof.Rows.firstMet (fun i=>ns.getD i 0) items.size).any (·==k')) (PyProof.Rows.firstMet (fun i=>ns.getD i 0) items.size).length/\
     (∀b o,b<s.heap.objs.size->s.heap.get? b=some o->h'.get? b=some o)) E) F.called_set.init.plain F.entry_set_init (check_set_init_1 hT ?_)) fun r₂ s₂ hr₂=>?_
   ·obtain⟨ol,hol,hcl,nl,hdl⟩:=hl
    obtain⟨ocls,odict,odata,oslots⟩:=ol
    simp only at hcl hdl
    subst hcl;subst hdl
    have hol':(s.heap.push {cls:= .type "set",dict:=none,data:= .set #[] 0 (.fresh 0 0 led)}).get? l=some {cls:= .type "tuple",dict:=odict,data:= .seq items nl,slots:=oslots}:=Heap.get?_push_of_some _ hol
    have hsls:=F.sub_tuple_set
    have hslf:=F.sub_tuple_frozenset
    have hne:(Value.type "tuple"==Value.type "dict")=false:=by decide
    have hl1:(s.heap.push {cls:= .type "set",dict:=none,data:= .set #[] 0 (.fresh 0 0 led)}).IsTuple l items:=⟨_,hol',rfl,nl,rfl⟩
    unfold Builtin.«set.__init__» noKeywords Builtin.Frozenset.updateFrom
    generalize hPI:pyIter=PI
    wp_walk
    subst hPI
    refine wpAny_pyIter_tuple hl1 ?_
    refine wpAny_bind (wpAny_runValue ?_)
    have hlS:l<s.heap.objs.size:=Heap.lt_size hol
    have hh3:A.in1.in1.in1.handled=none:=by simp[hh]
    have hneI:l≠(s.heap.push {cls:= .type "set",dict:=none,data:= .set #[] 0 (.fresh 0 0 led)}).objs.size:=by
     rw[Heap.size_push];exact Nat.ne_of_lt (Nat.lt_succ_of_lt hlS)
    have hSf:s.heap.objs.size ∉ [(s.heap.push {cls:= .type "set",dict:=none,data:= .set #[] 0 (.fresh 0 0 led)}).objs.size,l]:=by
     rw[Heap.size_push];simp only[List.mem_cons,List.mem_singleton,List.not_mem_nil,or_false,not_or]
     exact⟨Nat.ne_of_lt (Nat.lt_succ_self _),Nat.ne_of_gt hlS⟩
    have hval:∀(i:Nat)(v:Value),items[i]?=some v->∃t,v= .int ((fun i=>ns.getD i 0) i) t:=fun i v hv=>
     PyProof.Rows.IntsAre.int_at hi i v (by rw[Array.getElem?_toList];exact hv)
    refine PyProof.Rows.codeAny_set_update_loopS ((Walks.tuple hh3 _ l hneI items).toS) s.heap.objs.size
     hSf (fun i=>ns.getD i 0) hval hb (items.size-0) 0 _ (by omega) (Nat.zero_le _)
     ⟨⟨_,Heap.get?_push_size _ rfl,rfl,rfl⟩,(hl1.at fun o e=>Heap.get?_push_of_some _ e)⟩ ?hS0 ?hR
    case hS0=>
     have hget:((s.heap.push {cls:= .type "set",dict:=none,data:= .set #[] 0 (.fresh 0 0 led)}).push {cls:= .type "tuple_iterator",data:= .fields #[.ref l,.int 0 0]}).get? s.heap.objs.size
       =some {cls:= .type "set",dict:=none,data:= .set #[] 0 (.fresh 0 0 led)}:=Heap.get?_push_of_some _ hS
     exact PyProof.Rows.SetOf_congr ((PyProof.Rows.setObjOf_fresh (knd:=intKind prog w) led).setOf hget (by unfold scanBound;omega)) (fun _=>rfl) rfl
    case hR=>
     intro s' hm hS'
     obtain⟨h',g',d',tk',os'⟩:=s'
     have eg:g'=s.gens:=hm.gens
     have ed:d'=s.drawn:=hm.drawn
     have eo:os'=s.os:=hm.os
     subst eg;subst ed;subst eo
     show wpAny _ _ _ _ _ _
     refine wpAny_pure ?_
     show wpAny _ _ (ret Value.none) _ _ _
     refine wpAny_pure ⟨rfl,h',tk',rfl,hS',fun b o hb e=>?_⟩
     have hb1:b≠s.heap.objs.size:=Nat.ne_of_lt hb
     have hb2:b≠(s.heap.push {cls:= .type "set",dict:=none,data:= .set #[] 0 (.fresh 0 0 led)}).objs.size:=by
      rw[Heap.size_push];exact Nat.ne_of_lt (Nat.lt_succ_of_lt hb)
     exact hm.heap b o (by simp only[List.mem_cons,List.mem_singleton,List.not_mem_nil,or_false,not_or];exact⟨hb1,hb2⟩) (Heap.get?_push_of_some _ (Heap.get?_push_of_some _ e))
   ·cases r₂ with
    |error e=>exact hr₂
    |ok fl₂=>
     cases fl₂ with
     |ret r=>
      obtain⟨rfl,h',tk,rfl,hS',hk'⟩:=hr₂
      repeat (any_goals (first|assumption|wp_step))
      exact h _ _ hS' hk'
     |_=>exact hr₂.elim
  |_=>exact hr.elim
end
end SetI
namespace L2
open PySem PySem.Spec PyProof.Rows
theorem firstMet_self:∀(ns:List Int),ns.Nodup->(firstMet (fun i=>ns.getD i 0) ns.length).length=ns.length:=by
 intro ns nd
 have key:∀i,i<=ns.length->firstMet (fun i=>ns.getD i 0) i=ns.take i:=by
  intro i
  induction i with
  |zero=>intro _;rfl
  |succ i ih=>
   intro hi
   rw[firstMet_succ,ih (by omega)]
   unfold step_dedup
   have hg:ns.getD i 0=ns[i]:=by rw[List.getD_eq_getElem?_getD,List.getElem?_eq_getElem (by omega)];rfl
   rw[hg]
   have hno:¬((ns.take i).any (·==ns[i])=true):=by
    intro h
    rw[List.any_eq_true]at h
    obtain⟨x,hx,e⟩:=h
    have e':x=ns[i]:=by simpa using e
    obtain⟨j,hj,ej⟩:=List.getElem_of_mem hx
    rw[List.length_take]at hj
    rw[List.getElem_take]at ej
    have:=(List.getElem_inj (h₀:=by omega) (h₁:=by omega) nd).mp (ej.trans e')
    omega
   rw[if_neg hno,List.take_add_one,List.getElem?_eq_getElem (by omega)]
   rfl
 rw[key _ (Nat.le_refl _),List.take_length]
section
variable{X:Cx}
theorem ints_of{ns:List Int}:∀{us:List Value},Vals (ns.map V.int) us->IntsAre us ns:=by
 induction ns with
 |nil=>intro us r;cases r;exact .nil
 |cons k ks ih=>
  intro us r
  cases r with
  |cons h t=>
   obtain⟨tk,rfl⟩:=h
   exact .cons _ _ (ih t)
def rSetI(K:PySem.W.Frag):List V->Hp->VK->Prop:=fun xs H Q=>∃p,∃ns:List Int,xs=[.ref p]/\SqT K H p (ns.map V.int)/\ns.length<=1000/\∀q S H',Same H H'->H' q=some (.set S (firstMet (fun i=>ns.getD i 0) ns.length).length)->Q (.ref q) H'
theorem call_setI{k:Nat}(hr:Room k X.A):CallR X (.type "set") (rSetI X.K):=by
 intro pins s σ H xs us Q I r h
 obtain⟨p,ns,rfl,hp,h1000,q⟩:=h
 obtain⟨u,rfl,rx⟩:=vals1 r
 cases(show u=Value.ref p from rx)
 obtain⟨its,rv,pl,hz⟩:=I.tuple hp
 have hvl:=rv.length
 rw[List.length_map]at hvl
 refine SetI.call_set_tupI (ns:=ns) hr.hd pl (by simpa using ints_of rv) (by rw[List.size_toArray,<-hvl];unfold scanBound;omega) fun h' tk hS kp=>?_
 have esz:its.toArray.size=ns.length:=by rw[List.size_toArray];omega
 rw[esz]at hS
 have kp':∀b o,s.heap.get? b=some o->h'.get? b=some o:=fun b o e=>kp b o (Heap.lt_size e) e
 refine⟨.ref s.heap.objs.size,_,I.laid (t':=tk) (o:= .set (fun k'=>(firstMet (fun i=>ns.getD i 0) ns.length).any (·==k')) (firstMet (fun i=>ns.getD i 0) ns.length).length) kp' (Nat.le_refl _) ?_,rfl,q _ (fun k'=>(firstMet (fun i=>ns.getD i 0) ns.length).any (·==k')) _ (same_add (I.hok.fresh (Nat.le_refl _))) upd_same⟩
 exact hS
def rLenI:List V->Hp->VK->Prop:=fun xs H Q=>∃q S n,xs=[.ref q]/\H q=some (.set S n)/\n<=100000/\Q (.int n) H
theorem call_lenI:CallR X (.builtin "len") rLenI:=by
 intro pins s σ H xs us Q I r h
 obtain⟨p,S,n,rfl,hp,hn,q⟩:=h
 obtain⟨u,rfl,rx⟩:=vals1 r
 cases(show u=Value.ref p from rx)
 obtain⟨o,es,ep,t,ho,hex,hd,_,_,_,hf,he⟩:s.heap.SetOf (intKind X.prog X.w) p S n:=(I.hok p _ hp)
 refine call_len_set ho hex hd hf (by omega) ⟨.int n,H,I.tok _,⟨_,by rw[he]⟩,q⟩
end
end L2
namespace L2
open PySem PySem.Spec PyProof.Rows PySem.SeqAt
def Atom:V->Prop
 | .non=>True
 | .bl _=>True
 | .int _=>True
 | .str _=>True
 |_=>False
def Sam(K:PySem.W.Frag)(H:Hp):Nat->V->V->Prop
 |0,x,y=>x=y/\Atom x
 |d+1,x,y=>(x=y/\Atom x)\/∃a b xs ys,x= .ref a/\y= .ref b/\((SqT K H a xs/\SqT K H b ys)\/(SqL K H a xs/\SqL K H b ys))/\xs.length=ys.length/\∀(i:Nat) u v,xs[i]?=some u->ys[i]?=some v->Sam K H d u v
section
variable{X:Cx}
theorem atom_eq{A:Around}{s:Shared}{x:V}{u v:Value}(h:Atom x)(ru:RelV x u)(rv:RelV x v):EqAt A s u v true:=by
 cases x with
 |non=>cases(show u=Value.none from ru);cases(show v=Value.none from rv);exact EqAt.same _
 |bl b=>cases(show u=Value.bool b from ru);cases(show v=Value.bool b from rv);exact EqAt.same _
 |int i=>
  obtain⟨t,rfl⟩:=ru
  obtain⟨t',rfl⟩:=rv
  have e:=EqAt.int_int (A:=A) (s:=s) i t i t'
  rw[beq_self_eq_true]at e
  exact e
 |str i=>
  obtain⟨t,rfl⟩:=ru
  obtain⟨t',rfl⟩:=rv
  have e:=(eqGives_str i i t t').at A s
  rw[beq_self_eq_true]at e
  exact e
 |_=>exact h.elim
theorem all_true(n:Nat):(List.range n).all (fun _=>true)=true:=by simp
theorem sam_eq{pins:List (Addr×Obj)}{σ:St}{H:Hp}{s:Shared}(I:Inv X pins σ H s):∀(d:Nat)(A:Around)(x y:V)(u v:Value),A.units+d<cLine->Sam X.K H d x y->RelV x u->RelV y v->EqAt A s u v true
 |0,A,x,y,u,v,hu,h,ru,rv=>by
  obtain⟨rfl,h⟩:=h
  exact atom_eq h ru rv
 |d+1,A,x,y,u,v,hu,h,ru,rv=>by
  rcases h with⟨rfl,h⟩|⟨a,b,xs,ys,rfl,rfl,h,hl,hk⟩
  ·exact atom_eq h ru rv
  cases(show u=Value.ref a from ru)
  cases(show v=Value.ref b from rv)
  by_cases hab:a=b
  ·subst hab
   exact EqAt.same _
  refine EqAt.of_refs hab ?_
  rcases h with⟨ha,hb⟩|⟨ha,hb⟩
  ·obtain⟨vs,rvs,pa,_⟩:=I.tuple ha
   obtain⟨ws,rws,pb,_⟩:=I.tuple hb
   have l1:=rvs.length
   have l2:=rws.length
   have e:=RcAt.tuples (A:=A) (s:=s) (e:=fun _=>true) pa pb (by omega) (fun j h1 h2=>?_)
   ·rw[all_true]at e
    have:(vs.toArray.size==ws.toArray.size)=true:=by simp;omega
    rw[this]at e
    exact e
   ·simp only[List.size_toArray]at h1 h2
    obtain⟨x1,e1,r1⟩:=rvs.get (List.getElem?_eq_getElem (l:=xs) (i:=j) (by omega))
    obtain⟨y1,e2,r2⟩:=rws.get (List.getElem?_eq_getElem (l:=ys) (i:=j) (by omega))
    have g1:vs[j]=x1:=by rw[List.getElem?_eq_getElem h1]at e1;exact Option.some.inj e1
    have g2:ws[j]=y1:=by rw[List.getElem?_eq_getElem h2]at e2;exact Option.some.inj e2
    have g:=sam_eq I d A.in1 _ _ x1 y1 (by show A.units+1+d<cLine;omega) (hk j _ _ (List.getElem?_eq_getElem (by omega)) (List.getElem?_eq_getElem (by omega))) r1 r2
    simp only[List.getElem_toArray,g1,g2]
    exact g
  ·obtain⟨vs,rvs,pa,_⟩:=I.list ha
   obtain⟨ws,rws,pb,_⟩:=I.list hb
   have l1:=rvs.length
   have l2:=rws.length
   have e:=RcAt.lists (A:=A) (s:=s) (e:=fun _=>true) pa.isList pb.isList (by simp;omega) (by omega) (fun j h1 h2=>?_)
   ·rw[all_true]at e
    exact e
   ·simp only[List.size_toArray]at h1 h2
    obtain⟨x1,e1,r1⟩:=rvs.get (List.getElem?_eq_getElem (l:=xs) (i:=j) (by omega))
    obtain⟨y1,e2,r2⟩:=rws.get (List.getElem?_eq_getElem (l:=ys) (i:=j) (by omega))
    have g1:vs[j]=x1:=by rw[List.getElem?_eq_getElem h1]at e1;exact Option.some.inj e1
    have g2:ws[j]=y1:=by rw[List.getElem?_eq_getElem h2]at e2;exact Option.some.inj e2
    have g:=sam_eq I d A.in1 _ _ x1 y1 (by show A.units+1+d<cLine;omega) (hk j _ _ (List.getElem?_eq_getElem (by omega)) (List.getElem?_eq_getElem (by omega))) r1 r2
    simp only[List.getElem_toArray,g1,g2]
    exact g
end
end L2
namespace L2
open PySem PySem.Spec PyProof.Rows
section
variable{κ:Type}[DecidableEq κ]
def valV(kvs:List (κ×V))(k:κ):Option V:=(kvs.find? fun kv=>decide (kv.1=k)).map (·.2)
def putK(kvs:List (κ×V))(k:κ)(v:V):List (κ×V):=
 if(kvs.any fun kv=>decide (kv.1=k))=true then kvs.map (fun kv=>if kv.1=k then(kv.1,v)else kv)else kvs++[(k,v)]
theorem valV_pos{p:κ×V}{r:List (κ×V)}{k:κ}(e:p.1=k):valV (p::r) k=some p.2:=by simp[valV,List.find?_cons,e]
theorem valV_neg{p:κ×V}{r:List (κ×V)}{k:κ}(e:¬p.1=k):valV (p::r) k=valV r k:=by simp[valV,List.find?_cons,e]
theorem valV_any(k:κ):∀kvs:List (κ×V),(kvs.any fun kv=>decide (kv.1=k))=(valV kvs k).isSome
 |[]=>rfl
 |p::r=>by
  rw[List.any_cons]
  by_cases e:p.1=k
  ·simp only[valV_pos e,decide_eq_true e,Bool.true_or,Option.isSome_some]
  ·rw[valV_neg e,decide_eq_false e,Bool.false_or];exact valV_any k r
theorem valV_map(k j:κ)(y:V):∀kvs:List (κ×V),valV (kvs.map fun kv=>if kv.1=k then(kv.1,y)else kv) j=(valV kvs j).map fun x=>if j=k then y else x
 |[]=>rfl
 |p::r=>by
  have ih:=valV_map k j y r
  rw[List.map_cons]
  by_cases h:p.1=k
  ·rw[if_pos h]
   by_cases e:p.1=j
   ·rw[valV_pos (p:=(p.1,y)) e,valV_pos e,Option.map_some,if_pos (e.symm.trans h)]
   ·rw[valV_neg (p:=(p.1,y)) e,valV_neg e,ih]
  ·rw[if_neg h]
   by_cases e:p.1=j
   ·rw[valV_pos (p:=p) e,valV_pos e,Option.map_some,if_neg (fun z=>h (e.trans z))]
   ·rw[valV_neg (p:=p) e,valV_neg e,ih]
theorem valV_snoc(k j:κ)(y:V):∀kvs:List (κ×V),valV kvs k=none->valV (kvs++[(k,y)]) j=if j=k then some y else valV kvs j
 |[],_=>by
  by_cases e:k=j
  ·rw[if_pos e.symm];exact valV_pos (p:=(k,y)) e
  ·rw[if_neg (fun z=>e z.symm)];exact valV_neg (p:=(k,y)) e
 |p::r,hn=>by
  rw[List.cons_append]
  have hk:¬p.1=k:=fun z=>by rw[valV_pos z]at hn;cases hn
  rw[valV_neg hk]at hn
  have ih:=valV_snoc k j y r hn
  by_cases e:p.1=j
  ·rw[valV_pos e,valV_pos e,if_neg (fun z=>hk (e.trans z))]
  ·rw[valV_neg e,valV_neg e,ih]
theorem valV_put(kvs:List (κ×V))(k j:κ)(y:V):valV (putK kvs k y) j=if j=k then some y else valV kvs j:=by
 unfold putK
 by_cases a:(kvs.any fun kv=>decide (kv.1=k))=true
 ·rw[if_pos a,valV_map]
  rw[valV_any]at a
  by_cases e:j=k
  ·obtain⟨x,hx⟩:=Option.isSome_iff_exists.mp a
   rw[if_pos e,e,hx,Option.map_some,if_pos rfl]
  ·rw[if_neg e]
   cases valV kvs j with
   |none=>rfl
   |some x=>rw[Option.map_some,if_neg e]
 ·rw[if_neg a]
  refine valV_snoc k j y kvs ?_
  rw[valV_any]at a
  cases q:valV kvs k with
  |none=>rfl
  |some x=>rw[q]at a;exact(a rfl).elim
theorem length_putK(kvs:List (κ×V))(k:κ)(v:V):(putK kvs k v).length<=kvs.length+1:=by
 unfold putK
 split
 ·rw[List.length_map];omega
 ·rw[List.length_append,List.length_cons,List.length_nil];omega
theorem putK_new{kvs:List (κ×V)}{k:κ}(v:V)(h:valV kvs k=none):putK kvs k v=kvs++[(k,v)]:=by
 unfold putK
 rw[valV_any,h]
 exact if_neg (by decide)
theorem RelO.isSome_eq{o:Option V}{u:Option Value}(r:RelO o u):o.isSome=u.isSome:=by
 cases o with
 |none=>cases u with
  |none=>rfl
  |some _=>exact(show False from r).elim
 |some _=>cases u with
  |none=>exact(show False from r).elim
  |some _=>rfl
theorem RelO.getD{o:Option V}{u:Option Value}{d:V}{d':Value}(r:RelO o u)(rd:RelV d d'):RelV (o.getD d) (u.getD d'):=by
 cases o with
 |none=>cases u with
  |none=>exact rd
  |some _=>exact(show False from r).elim
 |some _=>cases u with
  |none=>exact(show False from r).elim
  |some _=>exact r
theorem KV.val{kvs:List (κ×V)}{vs:List (κ×Value)}(r:KV kvs vs)(k:κ):RelO (valV kvs k) (valueAt vs k):=by
 unfold KV at r
 induction r with
 |nil=>exact True.intro
 |@cons p q ps qs h t ih=>
  obtain⟨h1,h2⟩:=h
  by_cases e:p.1=k
  ·have e':q.1=k:=h1.symm.trans e
   have b:valueAt (q::qs) k=some q.2:=by simp[valueAt,List.find?_cons,e']
   rw[valV_pos e,b];exact h2
  ·have e':¬q.1=k:=fun z=>e (h1.trans z)
   have b:valueAt (q::qs) k=valueAt qs k:=by simp[valueAt,List.find?_cons,e']
   rw[valV_neg e,b];exact ih
theorem KV.any{kvs:List (κ×V)}{vs:List (κ×Value)}(r:KV kvs vs)(k:κ):(kvs.any fun kv=>decide (kv.1=k))=vs.any fun kv=>decide (kv.1=k):=by
 unfold KV at r
 induction r with
 |nil=>rfl
 |cons h t ih=>rw[List.any_cons,List.any_cons,ih,h.1]
theorem KV.repl{kvs:List (κ×V)}{vs:List (κ×Value)}(r:KV kvs vs)(k:κ){y:V}{u:Value}(ry:RelV y u):
  KV (kvs.map fun kv=>if kv.1=k then(kv.1,y)else kv) (vs.map fun kv=>if kv.1=k then(kv.1,u)else kv):=by
 unfold KV at r⊢
 induction r with
 |nil=>exact .nil
 |@cons p q ps qs h t ih=>
  rw[List.map_cons,List.map_cons]
  refine .cons ?_ ih
  obtain⟨h1,h2⟩:=h
  by_cases e:p.1=k
  ·rw[if_pos e,if_pos (h1.symm.trans e)];exact⟨h1,ry⟩
  ·rw[if_neg e,if_neg (fun z=>e (h1.trans z))];exact⟨h1,h2⟩
theorem KV.put{kvs:List (κ×V)}{vs:List (κ×Value)}(r:KV kvs vs)(k:κ){y:V}{u:Value}(ry:RelV y u):KV (putK kvs k y) (stored vs k u):=by
 unfold putK stored
 rw[r.any k]
 by_cases e:(vs.any fun kv=>decide (kv.1=k))=true
 ·rw[if_pos e,if_pos e];exact r.repl k ry
 ·rw[if_neg e,if_neg e];exact Paired.snoc r ⟨rfl,ry⟩
theorem KV.keys{kvs:List (κ×V)}{vs:List (κ×Value)}(r:KV kvs vs):kvs.map (·.1)=vs.map (·.1):=by
 unfold KV at r
 induction r with
 |nil=>rfl
 |cons h t ih=>rw[List.map_cons,List.map_cons,ih,h.1]
theorem KV.length{kvs:List (κ×V)}{vs:List (κ×Value)}(r:KV kvs vs):kvs.length=vs.length:=Paired.length r
end
theorem kV_is{P:Program}{w:World}{k:Key}{u:Value}(r:RelV (kV k) u):(mixKind P w).is k u=true:=by
 cases k with
 |inl i=>obtain⟨t,e⟩:=(show∃t,u=Value.int i t from r);subst e;exact mixKind_int P w i t
 |inr x=>obtain⟨t,e⟩:=(show∃t,u=Value.str x t from r);subst e;exact mixKind_str P w x t
theorem items_are{P:Program}{w:World}:∀{ks:List Key}{us:List Value},Vals (ks.map kV) us->ItemsAre (mixKind P w) ks us
 |[],_,r=>by rw[List.map_nil]at r;cases r;exact .nil
 |k::ks,_,r=>by
  rw[List.map_cons]at r
  cases r with
  |cons h t=>exact .cons (kV_is h) (items_are t)
abbrev KT(H:Hp):List (List Key×V)->List (List Key×Addr×Value)->Prop:=Paired fun p q=>p.1=q.1/\H q.2.1=some (.tup (p.1.map kV))/\RelV p.2 q.2.2
theorem KT.val{H:Hp}{kvs:List (List Key×V)}{xs:List (List Key×Addr×Value)}(r:KT H kvs xs)(k:List Key):RelO (valV kvs k) ((atKey xs k).map (·.2)):=by
 induction r with
 |nil=>exact True.intro
 |@cons p q ps qs h t ih=>
  obtain⟨h1,_,h2⟩:=h
  by_cases e:p.1=k
  ·have e':q.1=k:=h1.symm.trans e
   have b:atKey (q::qs) k=some q.2:=by simp[atKey,List.find?_cons,e']
   rw[valV_pos e,b];exact h2
  ·have e':¬q.1=k:=fun z=>e (h1.trans z)
   have b:atKey (q::qs) k=atKey qs k:=by simp[atKey,List.find?_cons,e']
   rw[valV_neg e,b];exact ih
theorem KT.repl{H:Hp}{kvs:List (List Key×V)}{xs:List (List Key×Addr×Value)}(r:KT H kvs xs)(k:List Key){y:V}{u:Value}(ry:RelV y u):
  KT H (kvs.map fun kv=>if kv.1=k then(kv.1,y)else kv) (xs.map (putAt k u)):=by
 induction r with
 |nil=>exact .nil
 |@cons p q ps qs h t ih=>
  rw[List.map_cons,List.map_cons]
  refine .cons ?_ ih
  obtain⟨h1,h2,h3⟩:=h
  unfold putAt
  by_cases e:p.1=k
  ·rw[if_pos e,if_pos (h1.symm.trans e)];exact⟨h1,h2,ry⟩
  ·rw[if_neg e,if_neg (fun z=>e (h1.trans z))];exact⟨h1,h2,h3⟩
theorem KT.put{H:Hp}{kvs:List (List Key×V)}{xs:List (List Key×Addr×Value)}(r:KT H kvs xs)(k:List Key){b:Addr}{y:V}{u:Value}(hb:H b=some (.tup (k.map kV)))(ry:RelV y u):
  KT H (putK kvs k y) (storedH xs k b u):=by
 have e:(kvs.any fun kv=>decide (kv.1=k))=(atKey xs k).isSome:=by
  rw[valV_any,(r.val k).isSome_eq,Option.isSome_map]
 unfold putK storedH
 rw[e]
 by_cases q:(atKey xs k).isSome=true
 ·rw[if_pos q,if_pos q];exact r.repl k ry
 ·rw[if_neg q,if_neg q];exact Paired.snoc r ⟨rfl,hb,ry⟩
theorem KT.keeps{H H':Hp}{kvs:List (List Key×V)}{xs:List (List Key×Addr×Value)}(r:KT H kvs xs)(ht:∀b ys,H b=some (.tup ys)->H' b=some (.tup ys)):KT H' kvs xs:=
 Paired.mapP r fun _ _ z=>⟨z.1,ht _ _ z.2.1,z.2.2⟩
section
variable{P:Program}{w:World}{H:Hp}{h:Heap}{a:Addr}
theorem rd_of{u:HO}(ok:HOk P w H h)(e:Rd H a u):ObjOk P w H h a u:=e.ok ok
theorem dk_rd{kvs:List (Key×V)}(ok:HOk P w H h)(e:Rd H a (.dK kvs)):kvs.length<=sizeLine/\(a==sysModules)=false/\∃vs,KV kvs vs/\h.DictOf (mixKind P w) a vs:=
 show ObjOk P w H h a (.dK kvs)from rd_of ok e
theorem dk_of{kvs:List (Key×V)}(ok:HOk P w H h)(e:H a=some (.dK kvs)):kvs.length<=sizeLine/\(a==sysModules)=false/\∃vs,KV kvs vs/\h.DictOf (mixKind P w) a vs:=dk_rd ok (.inl e)
theorem key_of{ks:List Key}(ok:HOk P w H h)(e:H a=some (.tup (ks.map kV))):(tupleKind (mixKind P w)).is h ks a:=by
 obtain⟨_,its,r,o,h1,h2,n,h3⟩:=(show ObjOk P w H h a (.tup (ks.map kV))from ok a _ e)
 exact⟨o,its.toArray,n,h1,h2,h3,by simpa using items_are r⟩
theorem dt_rd{kvs:List (List Key×V)}(ok:HOk P w H h)(e:Rd H a (.dT kvs)):kvs.length<=sizeLine/\(a==sysModules)=false/\
  ∃xs,KT H kvs xs/\h.DictOfH (tupleKind (mixKind P w)) a xs:=by
 obtain⟨z,y,xs,r,o,es,ep,h1,h2,h3,h4,h5⟩:=(show ObjOk P w H h a (.dT kvs)from rd_of ok e)
 refine⟨z,y,xs,r,o,es,ep,h1,h2,h3,h4,fun x hx=>?_,h5⟩
 have all:∀{l:List (List Key×V)}{m:List (List Key×Addr×Value)},KT H l m->∀x∈m,(tupleKind (mixKind P w)).is h x.1 x.2.1:=by
  intro l m q
  induction q with
  |nil=>intro x hx;exact nomatch hx
  |@cons p q ps qs hq t ih=>
   intro x hx
   rcases List.mem_cons.mp hx with e|hx
   ·subst e
    exact key_of ok (by rw[<-hq.1];exact hq.2.1)
   ·exact ih x hx
 exact all r x hx
theorem dt_of{kvs:List (List Key×V)}(ok:HOk P w H h)(e:H a=some (.dT kvs)):kvs.length<=sizeLine/\(a==sysModules)=false/\
  ∃xs,KT H kvs xs/\h.DictOfH (tupleKind (mixKind P w)) a xs:=dt_rd ok (.inl e)
end
def DGet(H:Hp)(a:Addr)(y:V)(r:Option V):Prop:=
 (∃kvs k,Rd H a (.dK kvs)/\y=kV k/\r=valV kvs k)\/∃kvs k b,Rd H a (.dT kvs)/\y= .ref b/\H b=some (.tup (k.map kV))/\r=valV kvs k
def DPut(H:Hp)(a:Addr)(y v:V)(H':Hp):Prop:=
 (∃kvs k,H a=some (.dK kvs)/\y=kV k/\kvs.length<sizeLine/\H'=upd H a (.dK (putK kvs k v)))\/
 ∃kvs k b,H a=some (.dT kvs)/\y= .ref b/\H b=some (.tup (k.map kV))/\kvs.length<sizeLine/\H'=upd H a (.dT (putK kvs k v))
theorem DGet.k{H:Hp}{a:Addr}{kvs:List (Key×V)}{k:Key}(e:H a=some (.dK kvs)):DGet H a (kV k) (valV kvs k):= .inl ⟨kvs,k,.inl e,rfl,rfl⟩
theorem DGet.t{H:Hp}{a b:Addr}{kvs:List (List Key×V)}{k:List Key}(e:H a=some (.dT kvs))(eb:H b=some (.tup (k.map kV))):DGet H a (.ref b) (valV kvs k):= .inr ⟨kvs,k,b,.inl e,rfl,eb,rfl⟩
theorem DPut.k{H:Hp}{a:Addr}{kvs:List (Key×V)}{k:Key}{v:V}(e:H a=some (.dK kvs))(hl:kvs.length<sizeLine):DPut H a (kV k) v (upd H a (.dK (putK kvs k v))):= .inl ⟨kvs,k,e,rfl,hl,rfl⟩
theorem DPut.t{H:Hp}{a b:Addr}{kvs:List (List Key×V)}{k:List Key}{v:V}(e:H a=some (.dT kvs))(eb:H b=some (.tup (k.map kV)))(hl:kvs.length<sizeLine):
  DPut H a (.ref b) v (upd H a (.dT (putK kvs k v))):= .inr ⟨kvs,k,b,e,rfl,eb,hl,rfl⟩
section
variable{X:Cx}{pins:List (Addr×Obj)}{σ:St}{H:Hp}{s:Shared}{a:Addr}{y v:V}{u r:Value}{o:Option V}{A:Around}{E:Value->Shared->Prop}
theorem d_getItem{Q:Value->Shared->Prop}(hu:A.units+1<cLine)(I:Inv X pins σ H s)(g:DGet H a y (some v))(ry:RelV y u)(h:∀w' s',Inv X pins σ H s'->RelV v w'->Q w' s'):
  wpAny (model X.prog X.w) A (getItem (.ref a) u) Q E s:=by
 rcases g with⟨kvs,k,e,ey,l⟩|⟨kvs,k,b,e,ey,eb,l⟩
 ·subst ey
  obtain⟨z,hd,vs,rel,dd⟩:=dk_rd I.hok e
  obtain⟨w',hw,rw'⟩:=RelO.some_of (v:=v) (o:=valueAt vs k) (by rw[l];exact rel.val k)
  exact wpAny_getItem_of (kV_is ry) dd.mapOf hw (h w' _ (I.tok _) rw')
 ·subst ey
  cases(show u=Value.ref b from ry)
  obtain⟨z,hd,xs,rel,dd⟩:=dt_rd I.hok e
  obtain⟨w',hw,rw'⟩:=RelO.some_of (v:=v) (o:=(atKey xs k).map (·.2)) (by rw[l];exact rel.val k)
  obtain⟨p,hp,hp2⟩:=Option.map_eq_some_iff.mp hw
  refine wpAny_getItem_heap (tupleKind_room_in1 hu) (key_of I.hok eb) dd hp ?_
  rw[hp2]
  exact h w' _ (I.tok _) rw'
theorem d_in{Q:Value->Shared->Prop}(hu:A.units+1<cLine)(I:Inv X pins σ H s)(g:DGet H a y o)(ry:RelV y u)(h:∀s',Inv X pins σ H s'->Q (.bool o.isSome) s'):
  wpAny (model X.prog X.w) A (compareOp .In u (.ref a)) Q E s:=by
 rcases g with⟨kvs,k,e,ey,l⟩|⟨kvs,k,b,e,ey,eb,l⟩
 ·subst ey
  obtain⟨z,hd,vs,rel,dd⟩:=dk_rd I.hok e
  refine wpAny_in_of (kV_is ry) hd dd.mapOf ?_
  rw[<-(rel.val k).isSome_eq,<-l]
  exact h _ (I.tok _)
 ·subst ey
  cases(show u=Value.ref b from ry)
  obtain⟨z,hd,xs,rel,dd⟩:=dt_rd I.hok e
  refine wpAny_in_heap (tupleKind_room_in1 hu) (key_of I.hok eb) hd dd ?_
  have q:=(rel.val k).isSome_eq
  rw[Option.isSome_map]at q
  rw[<-q,<-l]
  exact h _ (I.tok _)
theorem d_notIn{Q:Value->Shared->Prop}(hu:A.units+1<cLine)(I:Inv X pins σ H s)(g:DGet H a y o)(ry:RelV y u)(h:∀s',Inv X pins σ H s'->Q (.bool (!o.isSome)) s'):
  wpAny (model X.prog X.w) A (compareOp .NotIn u (.ref a)) Q E s:=by
 rcases g with⟨kvs,k,e,ey,l⟩|⟨kvs,k,b,e,ey,eb,l⟩
 ·subst ey
  obtain⟨z,hd,vs,rel,dd⟩:=dk_rd I.hok e
  refine wpAny_notIn_of (kV_is ry) hd dd.mapOf ?_
  rw[<-(rel.val k).isSome_eq,<-l]
  exact h _ (I.tok _)
 ·subst ey
  cases(show u=Value.ref b from ry)
  obtain⟨z,hd,xs,rel,dd⟩:=dt_rd I.hok e
  refine wpAny_notIn_heap (tupleKind_room_in1 hu) (key_of I.hok eb) hd dd ?_
  have q:=(rel.val k).isSome_eq
  rw[Option.isSome_map]at q
  rw[<-q,<-l]
  exact h _ (I.tok _)
theorem d_write{h':Heap}{t':Nat}{ob:HO}(I:Inv X pins σ H s)(mu:Mut (H a))(hs:Heap.SameBut a s.heap h')(he:∃q,h'.get? a=some q) (new:ObjOk X.prog X.w (upd H a ob) h' a ob):
  Inv X pins σ (upd H a ob) {s with heap:=h',toks:=t'}:=
 I.write (x:=a) (e:=a) mu (.inl rfl) (fun b q hb z=>(hs.2 b hb).trans z) he new
theorem dk_new{P:Program}{w:World}{H':Hp}{h':Heap}{kvs:List (Key×V)}{vs:List (Key×Value)}(z:kvs.length<=sizeLine)(hd:(a==sysModules)=false)(rel:KV kvs vs)(dd:h'.DictOf (mixKind P w) a vs):
  ObjOk P w H' h' a (.dK kvs):=⟨z,hd,vs,rel,dd⟩
theorem d_setItem{H':Hp}{Q:Unit->Shared->Prop}(hu:A.units+1<cLine)(I:Inv X pins σ H s)(g:DPut H a y v H')(ry:RelV y u)(rv:RelV v r)(h:∀s',Inv X pins σ H' s'->Q () s'):
  wpAny (model X.prog X.w) A (setItem (.ref a) u r) Q E s:=by
 rcases g with⟨kvs,k,e,ey,l,eH⟩|⟨kvs,k,b,e,ey,eb,l,eH⟩
 ·subst ey eH
  obtain⟨z,hd,vs,rel,dd⟩:=dk_of I.hok e
  have hz:vs.length<=sizeLine:=by rw[<-rel.length];exact z
  have hl:(putK kvs k v).length<=sizeLine:=by have:=length_putK kvs k v;omega
  refine wpAny_setItem_pairs (hsz:=hz) (kV_is ry) dd fun h' dd' hs=>h _ ?_
  have he:∃q,h'.get? a=some q:=let⟨q,_,_,hq,_⟩:=dd';⟨q,hq⟩
  exact d_write I (by rw[e];exact True.intro) hs he (dk_new hl hd (rel.put k rv) dd')
 ·subst ey eH
  cases(show u=Value.ref b from ry)
  obtain⟨z,hd,xs,rel,dd⟩:=dt_of I.hok e
  have hz:xs.length<=sizeLine:=by rw[<-Paired.length rel];exact z
  have hl:(putK kvs k v).length<=sizeLine:=by have:=length_putK kvs k v;omega
  refine wpAny_setItem_heap (hsz:=hz) (tupleKind_room_in1 hu) (key_of I.hok eb) dd fun h' dd' hs=>h _ ?_
  obtain⟨q,es,ep,hq,h2,h3,h4,_,h5⟩:=dd'
  refine d_write I (by rw[e];exact True.intro) hs ⟨q,hq⟩ ⟨hl,hd,_,(rel.put k eb rv).keeps fun c ys ec=>?_,q,es,ep,hq,h2,h3,h4,h5⟩
  rw[upd_ne (ne_of ec e (fun z=>nomatch z))]
  exact ec
end
def NoSl(i:Expr):Prop:=∀ov iv,subscripted i false ov iv=operate [ov,iv] (getItem ov iv)
theorem subD_of{prog:Program}{w:World}{A:Around}{E:Value->Shared->Prop}{s:Shared}{env:Env}{value slice:Expr}{pos:Pos}{T id:String}{Q:Value->Shared->Prop}
  (hl:typeLookup (.type T) "__getitem__"=pure (some (.builtin id)))(hs:NoSl slice)
  (h:wpAny (model prog w) A (eval value env) (fun o s₁=>wpAny (model prog w) A (eval slice env) (fun i s₂=>s₂.TypeIs o T/\wpAny (model prog w) A (getItem o i) Q E s₂) E s₁) E s):
  wpAny (model prog w) A (eval (.Subscript value slice pos) env) Q E s:=by
 refine Subscript_ (wpAny_mono h (fun o s₁ h₁=>wpAny_mono h₁ (fun i s₂ h₂=>?_) fun _ _ x=>x) fun _ _ x=>x)
 obtain⟨hT,h₂⟩:=h₂
 unfold subscriptTail
 refine wpAny_bind ?_
 rw[getitemInPython_of_ne hT.not_modules]
 refine wpAny_bind (wpAny_specialOf hT hl ?_)
 have fin:wpAny (model prog w) A (subscripted slice false o i) (fun r s₃=>wpAny (model prog w) A (letTemporaryGo value o r>>=fun _=>pure r) Q E s₃) E s₂:=by
  rw[hs o i]
  exact wpAny_operating (wpAny_mono h₂ (fun r s₃ h₃=>wpAny_bind (wpAny_letTemporaryGo (wpAny_pure h₃))) fun _ _ x=>x)
 first
  |exact wpAny_pure (wpAny_bind fin)
  |exact wpAny_bind (wpAny_pure (wpAny_bind fin))
  |exact wpAny_bind fin
theorem dict_typeIs{X:Cx}{pins:List (Addr×Obj)}{σ:St}{H:Hp}{s:Shared}{a:Addr}{y:V}{o:Option V}(I:Inv X pins σ H s)(g:DGet H a y o):s.TypeIs (.ref a) "dict":=by
 rcases g with⟨kvs,k,e,_,_⟩|⟨kvs,k,b,e,_,_,_⟩
 ·obtain⟨_,_,vs,_,dd⟩:=dk_rd I.hok e
  exact dd.typeIs
 ·obtain⟨_,_,xs,_,dd⟩:=dt_rd I.hok e
  exact dd.typeIs
def tDGet(td ty:TE):TE:=fun σ H Q=>td σ H fun x H1=>ty σ H1 fun y H2=>∃a v,x= .ref a/\DGet H2 a y (some v)/\Q v H2
def tDIn(ty td:TE):TE:=fun σ H Q=>ty σ H fun y H1=>td σ H1 fun x H2=>∃a o,x= .ref a/\DGet H2 a y o/\Q (.bl o.isSome) H2
def tDNotIn(ty td:TE):TE:=fun σ H Q=>ty σ H fun y H1=>td σ H1 fun x H2=>∃a o,x= .ref a/\DGet H2 a y o/\Q (.bl (!o.isSome)) H2
def sDPut(td ty tv:TE):TS:=fun D σ H=>tv σ H fun v H1=>td σ H1 fun x H2=>ty σ H2 fun y H3=>∃a H4,x= .ref a/\DPut H3 a y v H4/\D.nx σ H4
section
variable{X:Cx}{o i e value:Expr}{pos pos' tpos:Pos}{td ty tv:TE}
theorem pe_dget(hu:X.A.units+1<cLine)(ho:PE X o td)(hi:PE X i ty)(hs:NoSl i):PE X (.Subscript o i pos) (tDGet td ty):=by
 intro pins s σ H Q I h
 refine subD_of PySem.F.slot_dict_getitem.lookup hs (thn (ho pins s σ H _ I h) fun u s1⟨x,H1,I1,rx,q1⟩=>thn (hi pins s1 σ H1 _ I1 q1) fun iv s2⟨y,H2,I2,ry,a,v,ex,g,q2⟩=>?_)
 subst ex
 obtain rfl:u=Value.ref a:=rx
 exact⟨dict_typeIs I2 g,d_getItem hu I2 g ry fun w' s3 I3 rw'=>⟨v,H2,I3,rw',q2⟩⟩
theorem pc_din(hu:X.A.units+1<cLine)(hi:PE X i ty)(ho:PE X o td):PC X .In i o (tDIn ty td):=by
 intro pins s σ H Q I h
 refine thn (hi pins s σ H _ I h) fun iv s1⟨y,H1,I1,ry,q1⟩=>thn (ho pins s1 σ H1 _ I1 q1) fun u s2⟨x,H2,I2,rx,a,ov,ex,g,q2⟩=>?_
 subst ex
 obtain rfl:u=Value.ref a:=rx
 exact d_in hu I2 g ry fun s3 I3=>⟨.bl ov.isSome,H2,I3,rfl,q2⟩
theorem pc_dnotin(hu:X.A.units+1<cLine)(hi:PE X i ty)(ho:PE X o td):PC X .NotIn i o (tDNotIn ty td):=by
 intro pins s σ H Q I h
 refine thn (hi pins s σ H _ I h) fun iv s1⟨y,H1,I1,ry,q1⟩=>thn (ho pins s1 σ H1 _ I1 q1) fun u s2⟨x,H2,I2,rx,a,ov,ex,g,q2⟩=>?_
 subst ex
 obtain rfl:u=Value.ref a:=rx
 exact d_notIn hu I2 g ry fun s3 I3=>⟨.bl (!ov.isSome),H2,I3,rfl,q2⟩
theorem ps_dput(hu:X.A.units+1<cLine)(ho:PE X o td)(hi:PE X i ty)(hv:PE X value tv)(hs:swapsWith value (some (.Subscript o i pos')) pos.line X.env=pure false):
  PS X (.Assign [.Subscript o i pos'] value pos) (sDPut td ty tv):=by
 intro pins s σ H D I h
 refine wpAny_Assign_Subscript (thn (hv pins s σ H _ I h) fun r s1⟨v,H1,I1,rv,q1⟩=>thn (ho pins s1 σ H1 _ I1 q1) fun u s2⟨x,H2,I2,rx,q2⟩=>thn (hi pins s2 σ H2 _ I2 q2) fun iv s3⟨y,H3,I3,ry,a,H4,ex,g,q3⟩=>?_) hs
 subst ex
 obtain rfl:u=Value.ref a:=rx
 exact d_setItem hu I3 g ry rv fun s4 I4=>⟨σ,H4,I4,q3⟩
end
theorem dt_empty{P:Program}{w:World}{H:Hp}(h:Heap)(hb:sysModules<h.objs.size):ObjOk P w H (h.push {cls:= .type "dict",data:= .dict #[]}) h.objs.size (.dT []):=
 ⟨Nat.zero_le _,beq_eq_false_iff_ne.mpr (Ne.symm (Nat.ne_of_lt hb)),[],.nil,_,#[],0,Heap.get?_push_size _ rfl,⟨rfl,rfl,rfl⟩,rfl,rfl,List.nodup_nil⟩
def tDNewT:TE:=fun _ H Q=>∀p,H p=none->Q (.ref p) (upd H p (.dT []))
section
variable{X:Cx}{pos:Pos}
theorem pe_dnewT:PE X (.Dict [] [] pos) tDNewT:=fun pins s σ H Q I h=>
 wpAny_Dict_empty ⟨.ref s.heap.objs.size,_,I.laid (a:=s.heap.objs.size) (o:= .dT []) (t':=s.toks) (fun _ _ q=>Heap.get?_push_of_some _ q) (Nat.le_refl _) (dt_empty s.heap I.big),rfl,h _ (I.hok.fresh (Nat.le_refl _))⟩
end
structure M1(X:Cx)(o:Expr)(m:Str)(apos:Pos)(e:Expr)(cpos:Pos):Prop where
 base:attributeBase o m X.env (eval o X.env)=eval o X.env
 few:((backTo cpos (starEach [e] X.env)).all (fun x=> !x.1)&&(backToKw cpos (keywordEach [] X.env)).all (fun x=>x.1.isSome)
  &&decide (([e]:List Expr).length+([]:List Keyword).length+(if([]:List Keyword).isEmpty then 0 else 1)<30))=true
 line:(apos.endLine==cpos.line)=true
 trees:backTo cpos (starEach [e] X.env)=[(false,eval e X.env)]
structure M2(X:Cx)(o:Expr)(m:Str)(apos:Pos)(e f:Expr)(cpos:Pos):Prop where
 base:attributeBase o m X.env (eval o X.env)=eval o X.env
 few:((backTo cpos (starEach [e,f] X.env)).all (fun x=> !x.1)&&(backToKw cpos (keywordEach [] X.env)).all (fun x=>x.1.isSome)
  &&decide (([e,f]:List Expr).length+([]:List Keyword).length+(if([]:List Keyword).isEmpty then 0 else 1)<30))=true
 line:(apos.endLine==cpos.line)=true
 trees:backTo cpos (starEach [e,f] X.env)=[(false,eval e X.env),(false,eval f X.env)]
end L2
namespace PySem
open Sem (wp)
section
variable{prog:Program}{w:World}{A:Around}{E:Value->Shared->Prop}{s:Shared}
theorem zipTT_next_item{z TI TO i1 i2 l1 l2:Addr}{k1 k2:Nat}{xs ys:Array Value}{x y a b:Value}{Q:Value->Shared->Prop}(D:ZipApart z TI TO i1 i2 l1 l2)
  (hz:IsZip s.heap z TI TO .none)(hTI:IsPair s.heap TI (.ref i1) (.ref i2))(hTO:IsPair s.heap TO a b)
  (h1:s.heap.IsTupleIter i1 l1 k1)(h2:s.heap.IsTupleIter i2 l2 k2)(hl1:s.heap.IsTuple l1 xs)(hl2:s.heap.IsTuple l2 ys)(hx:xs[k1]?=some x)(hy:ys[k2]?=some y)
  (hQ:∀h',IsZip h' z TI TO (rawInt s.heap.objs.size)->IsPair h' TO x y->h'.IsTupleIter i1 l1 (k1+1)->h'.IsTupleIter i2 l2 (k2+1)->IsPair h' s.heap.objs.size x y->h'.objs.size=s.heap.objs.size+1->
   (∀c o,c≠z->c≠TO->c≠i1->c≠i2->s.heap.get? c=some o->h'.get? c=some o)->Q (.ref s.heap.objs.size) {s with heap:=h'}):
  wpAny (model prog w) A (Builtin.«zip.__next__» ⟨[.ref z],[]⟩) (fun fin s'=>∃v,fin= .done (.ret v)/\Q v s') E s:=by
 show wpAny _ _ (field (.ref z) 2>>=_) _ _ _
 refine wpAny_bind (wpAny_field hz rfl (x:= .bool false) rfl ?_)
 show wpAny _ _ (field (.ref z) 3>>=_) _ _ _
 refine wpAny_bind (wpAny_field hz rfl (x:= .ref TI) rfl ?_)
 refine wpAny_bind (wpAny_seqItems hTI rfl ?_)
 show wpAny _ _ (Builtin.SmallTypes.ownedTupleIsFree (.ref z)>>=_) _ _ _
 refine wpAny_bind ?_
 unfold Builtin.SmallTypes.ownedTupleIsFree
 refine wpAny_bind (wpAny_field hz rfl (x:= .none) rfl (wpAny_pure ?_))
 simp only[if_true]
 refine wpAny_bind (wpAny_rule ?_)
 refine wpAny_bind (wpAny_field hz rfl (x:= .ref TO) rfl ?_)
 refine wpAny_bind (wpAny_setField_rec hz (by simp) fun h₁ hz₁ hs₁=>?_)
 replace hz₁:IsZip h₁ z TI TO .ellipsis:=hz₁
 refine wpAny_bind ?_
 simp only[List.zipIdx_cons,List.zipIdx_nil,List.forIn_cons,List.forIn_nil]
 refine wpAny_bind (wpAny_bind (wpAny_onRaise ?_))
 show wpAny _ _ (Builtin.SmallTypes.nextOf (.ref i1)>>=_) _ _ _
 refine wpAny_bind (nextOf_tuple_item (h1.extBut hs₁.extBut D.i1z) (hl1.extBut hs₁.extBut D.l1z) hx fun h₂ h1₂ hs₂=>wpAny_pure ?_)
 have hTO₂:IsPair h₂ TO a b:=hs₂.extBut _ _ D.TOi1 (hs₁.extBut _ _ D.TOz hTO)
 refine wpAny_bind (wpAny_seqItems hTO₂ rfl ?_)
 refine wpAny_bind (wpAny_updateSeq_pair hTO₂ fun h₃ hTO₃ hs₃=>?_)
 replace hTO₃:IsPair h₃ TO x b:=hTO₃
 refine wpAny_bind (wpAny_letGo (wpAny_pure ?_))
 refine wpAny_bind (wpAny_bind (wpAny_onRaise ?_))
 show wpAny _ _ (Builtin.SmallTypes.nextOf (.ref i2)>>=_) _ _ _
 refine wpAny_bind (nextOf_tuple_item (((h2.extBut hs₁.extBut D.i2z).extBut hs₂.extBut D.i12.symm).extBut hs₃.extBut D.TOi2.symm)
  (((hl2.extBut hs₁.extBut D.l2z).extBut hs₂.extBut D.l2i1).extBut hs₃.extBut D.l2TO) hy fun h₄ h2₄ hs₄=>wpAny_pure ?_)
 have hTO₄:IsPair h₄ TO x b:=hs₄.extBut _ _ D.TOi2 hTO₃
 refine wpAny_bind (wpAny_seqItems hTO₄ rfl ?_)
 refine wpAny_bind (wpAny_updateSeq_pair hTO₄ fun h₅ hTO₅ hs₅=>?_)
 replace hTO₅:IsPair h₅ TO x y:=hTO₅
 refine wpAny_bind (wpAny_letGo (wpAny_pure (wpAny_pure ?_)))
 refine wpAny_bind (wpAny_seqItems hTO₅ rfl ?_)
 refine wpAny_bind (wpAny_newTuple ?_)
 have hsz:h₅.objs.size=s.heap.objs.size:=by rw[hs₅.1,hs₄.1,hs₃.1,hs₂.1,hs₁.1]
 have hz₅:IsZip h₅ z TI TO .ellipsis:=hs₅.extBut _ _ D.TOz.symm (hs₄.extBut _ _ D.i2z.symm (hs₃.extBut _ _ D.TOz.symm (hs₂.extBut _ _ D.i1z.symm hz₁)))
 have hk₅:∀c o,c≠z->c≠TO->c≠i1->c≠i2->s.heap.get? c=some o->h₅.get? c=some o:=fun c o c1 c2 c3 c4 e=>
  hs₅.extBut _ _ c2 (hs₄.extBut _ _ c4 (hs₃.extBut _ _ c2 (hs₂.extBut _ _ c3 (hs₁.extBut _ _ c1 e))))
 have h1₅:h₅.IsTupleIter i1 l1 (k1+1):=((h1₂.extBut hs₃.extBut D.TOi1.symm).extBut hs₄.extBut D.i12).extBut hs₅.extBut D.TOi1.symm
 have h2₅:h₅.IsTupleIter i2 l2 (k2+1):=h2₄.extBut hs₅.extBut D.TOi2.symm
 have hzlt:z<h₅.objs.size:=Heap.lt_size hz₅
 have hTOlt:TO<h₅.objs.size:=Heap.lt_size hTO₅
 have hi1lt:i1<h₅.objs.size:=by obtain⟨_,e,_⟩:=h1₅;exact Heap.lt_size e
 have hi2lt:i2<h₅.objs.size:=by obtain⟨_,e,_⟩:=h2₅;exact Heap.lt_size e
 show wpAny _ _ (Builtin.SmallTypes.ownedTupleHandOut (.ref z) (.ref h₅.objs.size)>>=_) _ _ _
 refine wpAny_bind ?_
 unfold Builtin.SmallTypes.ownedTupleHandOut
 have hz₆:IsZip (h₅.push {cls:= .type "tuple",data:= .seq #[x,y]}) z TI TO .ellipsis:=Heap.get?_push_of_some _ hz₅
 refine wpAny_bind (wpAny_setField_rec hz₆ (by simp) fun h₇ hz₇ hs₇=>?_)
 replace hz₇:IsZip h₇ z TI TO (rawInt h₅.objs.size):=hz₇
 refine wpAny_setField_rec hz₇ (by simp) fun h₈ hz₈ hs₈=>?_
 replace hz₈:IsZip h₈ z TI TO (rawInt h₅.objs.size):=hz₈
 have up:∀c o,c≠z->h₅.get? c=some o->h₈.get? c=some o:=fun c o c1 e=>hs₈.extBut _ _ c1 (hs₇.extBut _ _ c1 (Heap.get?_push_of_some _ e))
 have hT₈:IsPair h₈ h₅.objs.size x y:=hs₈.extBut _ _ (Nat.ne_of_gt hzlt) (hs₇.extBut _ _ (Nat.ne_of_gt hzlt) (Heap.get?_push_size _ rfl))
 have hz8:h₈.objs.size=h₅.objs.size+1:=by rw[hs₈.1,hs₇.1,Heap.size_push]
 rw[hsz]at hz₈ hT₈ hz8
 refine wpAny_pure ⟨_,rfl,?_⟩
 show Q (.ref h₅.objs.size) _
 rw[hsz]
 exact hQ h₈ hz₈ (up _ _ D.TOz hTO₅) (let⟨o,ho,r⟩:=h1₅;⟨o,up _ o D.i1z ho,r⟩) (let⟨o,ho,r⟩:=h2₅;⟨o,up _ o D.i2z ho,r⟩) hT₈ hz8 fun c o c1 c2 c3 c4 e=>up c o c1 (hk₅ c o c1 c2 c3 c4 e)
theorem zipTT_next_end{z TI TO i1 i2 l1 l2:Addr}{k1 k2:Nat}{xs ys:Array Value}{a b:Value}{Q:Fin->Shared->Prop}(hh:A.handled=none)(D:ZipApart z TI TO i1 i2 l1 l2)
  (hz:IsZip s.heap z TI TO .none)(hTI:IsPair s.heap TI (.ref i1) (.ref i2))(hTO:IsPair s.heap TO a b)
  (h1:s.heap.IsTupleIter i1 l1 k1)(h2:s.heap.IsTupleIter i2 l2 k2)(hl1:s.heap.IsTuple l1 xs)(hl2:s.heap.IsTuple l2 ys)(hend:xs[k1]?=none\/ys[k2]?=none)
  (hE:∀h' e,(∀c o,c≠z->c≠TO->c≠i1->c≠i2->s.heap.get? c=some o->h'.get? c=some o)->(∃o,h'.get? e=some o/\o.cls= .type "StopIteration")->E (.ref e) {s with heap:=h'}):
  wpAny (model prog w) A (Builtin.«zip.__next__» ⟨[.ref z],[]⟩) Q E s:=by
 show wpAny _ _ (field (.ref z) 2>>=_) _ _ _
 refine wpAny_bind (wpAny_field hz rfl (x:= .bool false) rfl ?_)
 show wpAny _ _ (field (.ref z) 3>>=_) _ _ _
 refine wpAny_bind (wpAny_field hz rfl (x:= .ref TI) rfl ?_)
 refine wpAny_bind (wpAny_seqItems hTI rfl ?_)
 show wpAny _ _ (Builtin.SmallTypes.ownedTupleIsFree (.ref z)>>=_) _ _ _
 refine wpAny_bind ?_
 unfold Builtin.SmallTypes.ownedTupleIsFree
 refine wpAny_bind (wpAny_field hz rfl (x:= .none) rfl (wpAny_pure ?_))
 simp only[if_true]
 refine wpAny_bind (wpAny_rule ?_)
 refine wpAny_bind (wpAny_field hz rfl (x:= .ref TO) rfl ?_)
 refine wpAny_bind (wpAny_setField_rec hz (by simp) fun h₁ hz₁ hs₁=>?_)
 replace hz₁:IsZip h₁ z TI TO .ellipsis:=hz₁
 refine wpAny_bind ?_
 simp only[List.zipIdx_cons,List.zipIdx_nil,List.forIn_cons,List.forIn_nil]
 refine wpAny_bind (wpAny_bind (wpAny_onRaise ?_))
 show wpAny _ _ (Builtin.SmallTypes.nextOf (.ref i1)>>=_) _ _ _
 cases hx:xs[k1]? with
 |none=>
  refine wpAny_bind (nextOf_tuple_end hh (h1.extBut hs₁.extBut D.i1z) (hl1.extBut hs₁.extBut D.l1z) hx fun h₂ e hs₂ he=>?_)
  obtain⟨oe,hoe,hce⟩:=he
  have hz₂:IsZip h₂ z TI TO .ellipsis:=hs₂ _ _ D.i1z.symm hz₁
  have hez:e≠z:=fun x=>by subst x;rw[hz₂]at hoe;cases hoe;simp at hce
  refine wpAny_setField_rec hz₂ (by simp) fun h₃ _ hs₃=>hE h₃ e (fun c o c1 _ c3 _ x=>hs₃.extBut _ _ c1 (hs₂ _ _ c3 (hs₁.extBut _ _ c1 x))) ⟨oe,hs₃.extBut _ _ hez hoe,hce⟩
 |some x=>
  have hy:ys[k2]?=none:=by rcases hend with h|h;rw[hx]at h;cases h;exact h
  refine wpAny_bind (nextOf_tuple_item (h1.extBut hs₁.extBut D.i1z) (hl1.extBut hs₁.extBut D.l1z) hx fun h₂ h1₂ hs₂=>wpAny_pure ?_)
  have hTO₂:IsPair h₂ TO a b:=hs₂.extBut _ _ D.TOi1 (hs₁.extBut _ _ D.TOz hTO)
  refine wpAny_bind (wpAny_seqItems hTO₂ rfl ?_)
  refine wpAny_bind (wpAny_updateSeq_pair hTO₂ fun h₃ hTO₃ hs₃=>?_)
  refine wpAny_bind (wpAny_letGo (wpAny_pure ?_))
  refine wpAny_bind (wpAny_bind (wpAny_onRaise ?_))
  show wpAny _ _ (Builtin.SmallTypes.nextOf (.ref i2)>>=_) _ _ _
  refine wpAny_bind (nextOf_tuple_end hh (((h2.extBut hs₁.extBut D.i2z).extBut hs₂.extBut D.i12.symm).extBut hs₃.extBut D.TOi2.symm)
   (((hl2.extBut hs₁.extBut D.l2z).extBut hs₂.extBut D.l2i1).extBut hs₃.extBut D.l2TO) hy fun h₄ e hs₄ he=>?_)
  obtain⟨oe,hoe,hce⟩:=he
  have hz₄:IsZip h₄ z TI TO .ellipsis:=hs₄ _ _ D.i2z.symm (hs₃.extBut _ _ D.TOz.symm (hs₂.extBut _ _ D.i1z.symm hz₁))
  have hez:e≠z:=fun x=>by subst x;rw[hz₄]at hoe;cases hoe;simp at hce
  refine wpAny_setField_rec hz₄ (by simp) fun h₅ _ hs₅=>hE h₅ e (fun c o c1 c2 c3 c4 x=>hs₅.extBut _ _ c1 (hs₄ _ _ c4 (hs₃.extBut _ _ c2 (hs₂.extBut _ _ c3 (hs₁.extBut _ _ c1 x))))) ⟨oe,hs₅.extBut _ _ hez hoe,hce⟩
theorem wpAny_pyNext_zipTT_item{z TI TO i1 i2 l1 l2:Addr}{k1 k2:Nat}{xs ys:Array Value}{x y a b:Value}{Q:Option Value->Shared->Prop}(D:ZipApart z TI TO i1 i2 l1 l2)
  (hz:IsZip s.heap z TI TO .none)(hTI:IsPair s.heap TI (.ref i1) (.ref i2))(hTO:IsPair s.heap TO a b)
  (h1:s.heap.IsTupleIter i1 l1 k1)(h2:s.heap.IsTupleIter i2 l2 k2)(hl1:s.heap.IsTuple l1 xs)(hl2:s.heap.IsTuple l2 ys)(hx:xs[k1]?=some x)(hy:ys[k2]?=some y)
  (hQ:∀h',IsZip h' z TI TO (rawInt s.heap.objs.size)->IsPair h' TO x y->h'.IsTupleIter i1 l1 (k1+1)->h'.IsTupleIter i2 l2 (k2+1)->IsPair h' s.heap.objs.size x y->h'.objs.size=s.heap.objs.size+1->
   (∀c o,c≠z->c≠TO->c≠i1->c≠i2->s.heap.get? c=some o->h'.get? c=some o)->Q (some (.ref s.heap.objs.size)) {s with heap:=h'}):
  wpAny (model prog w) A (pyNext (.ref z)) Q E s:=by
 have hT:s.TypeIs (.ref z) "zip":=⟨_,hz,rfl⟩
 unfold pyNext
 exact wpAny_bind (wpAny_attempt (wpAny_callSpecial?_slot (name:=Str.ofString "__next__") hT F.slot_zip_next
  (wpAny_call_entry F.slot_zip_next hT F.entry_zip_next
   (zipTT_next_item D hz hTI hTO h1 h2 hl1 hl2 hx hy fun h' a1 a2 a3 a4 a5 a6 a7=>wpAny_pure (hQ h' a1 a2 a3 a4 a5 a6 a7)) (F.args_zip_next_1 _))))
theorem wpAny_pyNext_zipTT_end{z TI TO i1 i2 l1 l2:Addr}{k1 k2:Nat}{xs ys:Array Value}{a b:Value}{Q:Option Value->Shared->Prop}(hh:A.handled=none)(D:ZipApart z TI TO i1 i2 l1 l2)
  (hz:IsZip s.heap z TI TO .none)(hTI:IsPair s.heap TI (.ref i1) (.ref i2))(hTO:IsPair s.heap TO a b)
  (h1:s.heap.IsTupleIter i1 l1 k1)(h2:s.heap.IsTupleIter i2 l2 k2)(hl1:s.heap.IsTuple l1 xs)(hl2:s.heap.IsTuple l2 ys)(hend:xs[k1]?=none\/ys[k2]?=none)
  (hQ:∀h',(∀c o,c≠z->c≠TO->c≠i1->c≠i2->s.heap.get? c=some o->h'.get? c=some o)->Q none {s with heap:=h'}):wpAny (model prog w) A (pyNext (.ref z)) Q E s:=by
 have hT:s.TypeIs (.ref z) "zip":=⟨_,hz,rfl⟩
 unfold pyNext
 refine wpAny_bind (wpAny_attempt (wpAny_callSpecial?_slot (name:=Str.ofString "__next__") hT F.slot_zip_next
  (wpAny_call_entry F.slot_zip_next hT F.entry_zip_next (zipTT_next_end hh D hz hTI hTO h1 h2 hl1 hl2 hend fun h' e hk he=>?_) (F.args_zip_next_1 _))))
 obtain⟨o,ho,hc⟩:=he
 refine wpAny_bind (wpAny_isInstance (T:="StopIteration") (b:=true) ⟨o,ho,hc⟩ isSubtype_stop ?_)
 exact wpAny_pure (hQ _ hk)
end
abbrev zUH1(h:Heap)(l1:Addr):Heap:=h.push {cls:= .type "tuple_iterator",data:= .fields #[.ref l1,.int 0 0]}
abbrev zUH2(h:Heap)(l1 l2:Addr):Heap:=(zUH1 h l1).push {cls:= .type "tuple_iterator",data:= .fields #[.ref l2,.int 0 0]}
abbrev zUH3(h:Heap)(l1 l2:Addr):Heap:=(zUH2 h l1 l2).push {cls:= .type "tuple",data:= .seq #[.ref h.objs.size,.ref (zUH1 h l1).objs.size]}
abbrev zUH4(h:Heap)(l1 l2:Addr):Heap:=(zUH3 h l1 l2).push {cls:= .type "tuple",data:= .seq #[.none,.none]}
abbrev zUH5(h:Heap)(l1 l2:Addr):Heap:=(zUH4 h l1 l2).push {cls:= .type "zip",data:= .fields #[.none,.bool false,.bool false,.ref (zUH2 h l1 l2).objs.size,.ref (zUH3 h l1 l2).objs.size]}
theorem meets_zip_newTT(l1 l2:Addr)(xs ys:Array Value):
  Meets (Builtin.«zip.__new__» ⟨[.type "zip",.ref l1,.ref l2],[]⟩) (fun _ R s=>s.heap.IsTuple l1 xs/\s.heap.IsTuple l2 ys/\
   R (.ok (.ret (.ref (zUH4 s.heap l1 l2).objs.size))) {s with heap:=zUH5 s.heap l1 l2}):=
 .of_wp fun prog w A R s h=>by
  obtain⟨hp,g,d,tk,os⟩:=s;obtain⟨hl1,hl2,h⟩:=h
  have hsub:=sub_zip
  have hL1:Heap.IsTuple (Shared.heap ⟨hp,g,d,tk,os⟩) l1 xs:=hl1
  have hL2:Heap.IsTuple (Shared.heap ⟨hp.push {cls:= .type "tuple_iterator",data:= .fields #[.ref l1,.int 0 0]},g,d,tk,os⟩) l2 ys:=let⟨o,ho,r⟩:=hl2;⟨o,Heap.get?_push_of_some _ ho,r⟩
  wp_walk using wpAny_pyIter_tuple hL1,wpAny_pyIter_tuple hL2
  exact⟨_,rfl,h⟩
section
variable{prog:Program}{w:World}{A:Around}{E:Value->Shared->Prop}{s:Shared}
theorem call_zipTT{l1 l2:Addr}{xs ys:Array Value}{Q:Value->Shared->Prop}(hl1:s.heap.IsTuple l1 xs)(hl2:s.heap.IsTuple l2 ys)
  (h:∀h',IsZip h' (s.heap.objs.size+4) (s.heap.objs.size+2) (s.heap.objs.size+3) .none->IsPair h' (s.heap.objs.size+2) (.ref s.heap.objs.size) (.ref (s.heap.objs.size+1))->
   IsPair h' (s.heap.objs.size+3) .none .none->h'.IsTupleIter s.heap.objs.size l1 0->h'.IsTupleIter (s.heap.objs.size+1) l2 0->h'.objs.size=s.heap.objs.size+5->
   (∀c o,s.heap.get? c=some o->h'.get? c=some o)->Q (.ref (s.heap.objs.size+4)) {s with heap:=h'}):
  wpAny (model prog w) A (call (.type "zip") [.ref l1,.ref l2]) Q E s:=by
 refine callType_new F.called_zip (by decide) (F.typeCall_zip_2 _ _) (F.newCall_zip_2 _ _) (fun obj=>F.args_object_init_3 obj _ _) F.entry_zip_new
  (meets_zip_newTT l1 l2 xs ys) ⟨hl1,hl2,?_⟩
 have z1:(zUH1 s.heap l1).objs.size=s.heap.objs.size+1:=Heap.size_push ..
 have z2:(zUH2 s.heap l1 l2).objs.size=s.heap.objs.size+2:=by rw[Heap.size_push,z1]
 have z3:(zUH3 s.heap l1 l2).objs.size=s.heap.objs.size+3:=by rw[Heap.size_push,z2]
 have z4:(zUH4 s.heap l1 l2).objs.size=s.heap.objs.size+4:=by rw[Heap.size_push,z3]
 have z5:(zUH5 s.heap l1 l2).objs.size=s.heap.objs.size+5:=by rw[Heap.size_push,z4]
 have g5:(zUH5 s.heap l1 l2).get? (zUH4 s.heap l1 l2).objs.size=some _:=Heap.get?_push_size _ rfl
 have g4:(zUH5 s.heap l1 l2).get? (zUH3 s.heap l1 l2).objs.size=some _:=Heap.get?_push_of_some _ (Heap.get?_push_size _ rfl)
 have g3:(zUH5 s.heap l1 l2).get? (zUH2 s.heap l1 l2).objs.size=some _:=Heap.get?_push_of_some _ (Heap.get?_push_of_some _ (Heap.get?_push_size _ rfl))
 have g2:(zUH5 s.heap l1 l2).get? (zUH1 s.heap l1).objs.size=some _:=Heap.get?_push_of_some _ (Heap.get?_push_of_some _ (Heap.get?_push_of_some _ (Heap.get?_push_size _ rfl)))
 have g1:(zUH5 s.heap l1 l2).get? s.heap.objs.size=some _:=Heap.get?_push_of_some _ (Heap.get?_push_of_some _ (Heap.get?_push_of_some _ (Heap.get?_push_of_some _ (Heap.get?_push_size _ rfl))))
 show _/\_
 rw[z2,z3,z4]at g5
 rw[z1,z2]at g3
 rw[z3]at g4
 rw[z1]at g2
 rw[z4]
 exact⟨⟨_,g5,rfl⟩,h _ g5 g3 g4 ⟨_,g1,rfl,rfl⟩ ⟨_,g2,rfl,rfl⟩ z5 fun c o x=>
  Heap.get?_push_of_some _ (Heap.get?_push_of_some _ (Heap.get?_push_of_some _ (Heap.get?_push_of_some _ (Heap.get?_push_of_some _ x))))⟩
end
end PySem
namespace L2
open PySem PySem.Spec PyProof.Rows
def Ity(K:PySem.W.Frag)(a c:Addr):It:=
 ⟨fun i H=>∃xs ys x y,SqT K H a xs/\SqT K H c ys/\xs[i]?=some x/\ys[i]?=some y,
  fun i H x H'=>∃T u v,x= .ref T/\H T=none/\H'=upd H T (.tup [u,v])/\(∀xs,SqT K H a xs->xs[i]?=some u)/\∀ys,SqT K H c ys->ys[i]?=some v,
  fun i H=>∃xs ys,SqT K H a xs/\SqT K H c ys/\(xs.length<=i\/ys.length<=i)⟩
structure ZSy(h:Heap)(z TI TO i1 i2 a c:Addr)(i:Nat):Prop where
 zip:IsZip h z TI TO .none
 ti:IsPair h TI (.ref i1) (.ref i2)
 to:∃u v,IsPair h TO u v
 it1:h.IsTupleIter i1 a i
 it2:h.IsTupleIter i2 c i
theorem turn_zipT{P:Program}{w:World}{K:PySem.W.Frag}{elts:List Expr}{x1:Nat}{pos:Pos}(z TI TO i1 i2 a c:Addr)(D:ZipApart z TI TO i1 i2 a c):
  Turn P w K (.Tuple elts x1 pos) (Ity K a c) [z,TI,TO,i1,i2] z (fun i h=>ZSy h z TI TO i1 i2 a c i)where
 mem:=by simp
 obj:=fun i h st b hb=>by
  obtain⟨hz,hTI,⟨u,v,hTO⟩,⟨o1,e1,c1,d1⟩,⟨o2,e2,c2,d2⟩⟩:=st
  simp only[List.mem_cons,List.not_mem_nil,or_false]at hb
  rcases hb with rfl|rfl|rfl|rfl|rfl
  ·exact⟨_,hz,fun v z=>nomatch z⟩
  ·exact⟨_,hTI,fun v z=>nomatch z⟩
  ·exact⟨_,hTO,fun v z=>nomatch z⟩
  ·exact⟨o1,e1,fun v z=>by rw[d1]at z;cases z⟩
  ·exact⟨o2,e2,fun v z=>by rw[d2]at z;cases z⟩
 keep:=fun i h h' st k=>by
  obtain⟨hz,hTI,⟨u,v,hTO⟩,⟨o1,e1,r1⟩,⟨o2,e2,r2⟩⟩:=st
  exact⟨k z (by simp) _ hz,k TI (by simp) _ hTI,⟨u,v,k TO (by simp) _ hTO⟩,⟨o1,k i1 (by simp) _ e1,r1⟩,⟨o2,k i2 (by simp) _ e2,r2⟩⟩
 item:=by
  intro X hP hw hK hc i pins s σ H E I hf st hg
  subst hP hw hK
  obtain⟨xs,ys,x,y,hqa,hqc,hx,hy⟩:=hg
  obtain⟨its,rv,p,hz⟩:=I.tuple hqa
  obtain⟨jts,rw',pl,hz2⟩:=I.tuple hqc
  obtain⟨u,hu,ru⟩:=rv.get hx
  obtain⟨v,hv,rv'⟩:=rw'.get hy
  obtain⟨hz,hTI,⟨u0,v0,hTO⟩,h1,h2⟩:=st
  refine wpAny_pyNext_zipTT_item D hz hTI hTO h1 h2 (show s.heap.IsTuple a its.toArray from p) (show s.heap.IsTuple c jts.toArray from pl) (by simpa using hu) (by simpa using hv) fun h' a1 a2 a3 a4 a5 a6 hk=>?_
  have I1:Inv X pins σ H {s with heap:=h'}:=I.turnedL (t':=s.toks) (ch:=[z,TI,TO,i1,i2]) (fun b o hb q=>hk b o (fun z=>hb (by simp[z])) (fun z=>hb (by simp[z])) (fun z=>hb (by simp[z])) (fun z=>hb (by simp[z])) q) fun b hb=>hf b hb
  refine⟨_,rfl,wpAny_letOwnedTupleGo_zip (s:={s with heap:=h'}) a1 fun h2' hz2' sb=>?_⟩
  have I2:Inv X pins σ H {s with heap:=h2'}:=Inv.turnedL (s:={s with heap:=h'}) (t':=s.toks) (ch:=[z]) I1 (fun b o hb q=>(sb.2 b (fun z=>hb (by simp[z]))).trans q) fun b hb=>by rw[List.mem_singleton.mp hb];exact hf z (by simp)
  have hn:H s.heap.objs.size=none:=I.hok.fresh (Nat.le_refl _)
  have fT:FpOk X pins H s.heap.objs.size:=I.fpOk (Nat.le_refl _) hn
  have hzT:s.heap.objs.size≠z:=Nat.ne_of_gt (Heap.lt_size hz)
  have hT2:h2'.get? s.heap.objs.size=some {cls:= .type "tuple",data:= .seq #[u,v]}:=(sb.2 _ hzT).trans a5
  obtain⟨o1,e1,r1⟩:=a3
  obtain⟨o2,e2,r2⟩:=a4
  refine⟨.ref s.heap.objs.size,upd H s.heap.objs.size (.tup [x,y]),I2.track fT I.sz ⟨le1000 rfl,[u,v],.cons ru (.cons rv' .nil),⟨_,hT2,rfl,_,rfl⟩⟩,rfl,
   ⟨_,x,y,rfl,hn,rfl,fun zs hs=>by rw[I.tuple_inj hs hqa];exact hx,fun zs hs=>by rw[I.tuple_inj hs hqc];exact hy⟩,
   ⟨hz2',(sb.2 _ D.TIz).trans (hk _ _ D.TIz D.TITO D.TIi1 D.TIi2 hTI),⟨_,_,(sb.2 _ D.TOz).trans a2⟩,⟨o1,(sb.2 _ D.i1z).trans e1,r1⟩,⟨o2,(sb.2 _ D.i2z).trans e2,r2⟩⟩,fun b hb=>?_⟩
  have fb:=(hf b hb).1
  rw[upd_ne]
  ·exact fb
  ·intro e
   have:∃o,s.heap.get? b=some o:=by
    simp only[List.mem_cons,List.not_mem_nil,or_false]at hb
    rcases hb with rfl|rfl|rfl|rfl|rfl
    ·exact⟨_,hz⟩
    ·exact⟨_,hTI⟩
    ·exact⟨_,hTO⟩
    ·obtain⟨o,q,_⟩:=h1;exact⟨o,q⟩
    ·obtain⟨o,q,_⟩:=h2;exact⟨o,q⟩
   obtain⟨o,q⟩:=this
   rw[e]at q
   exact Nat.lt_irrefl _ (Heap.lt_size q)
 done:=by
  intro X hP hw hK hc i pins s σ H E I hf st hg
  subst hP hw hK
  obtain⟨xs,ys,hqa,hqc,hend⟩:=hg
  obtain⟨its,rv,p,hz⟩:=I.tuple hqa
  obtain⟨jts,rw',pl,hz2⟩:=I.tuple hqc
  have l1:=rv.length
  have l2:=rw'.length
  obtain⟨hz,hTI,⟨u0,v0,hTO⟩,h1,h2⟩:=st
  refine wpAny_pyNext_zipTT_end (I.ok.hd hc) D hz hTI hTO h1 h2 (show s.heap.IsTuple a its.toArray from p) (show s.heap.IsTuple c jts.toArray from pl) ?_ fun h' hk=>⟨rfl,I.turnedL (t':=s.toks) (ch:=[z,TI,TO,i1,i2]) (fun b o hb q=>hk b o (fun z=>hb (by simp[z])) (fun z=>hb (by simp[z])) (fun z=>hb (by simp[z])) (fun z=>hb (by simp[z])) q) fun b hb=>hf b hb⟩
  rcases hend with q|q
  ·exact .inl (by simp;omega)
  ·exact .inr (by simp;omega)
 self:=fun _ _ _ _ _ st h=>wpAny_pyIter_zip st.zip h
def iZipT(K:PySem.W.Frag)(ta:TA):TI:=fun σ H R=>ta σ H fun vs H1=>∃a c,vs=[.ref a,.ref c]/\(∃xs,SqT K H1 a xs)/\(∃ys,SqT K H1 c ys)/\R (Ity K a c) H1
theorem pi_zipT{X:Cx}{elts:List Expr}{x1:Nat}{tpos:Pos}{a b:Expr}{ta:TA}{p pos:Pos}(hg:Gl X "zip")(hm:X.mg "zip"=none)(ha:PA X [a,b] ta)(hpl:plainE a=true)(hpl2:plainE b=true):PI X (.Tuple elts x1 tpos) (.Call (.Name "zip" p) [a,b] [] pos) (iZipT X.K ta):=by
 intro pins s σ H R I h
 refine Call_ (ld_blt I hg hm boot_zip (PyProof.Rows.callWith_type1 (thn (ha pos pins s σ H _ I h) fun us s1⟨vs,H1,I1,r1,q1⟩=>?_) (star_cons hpl) (star_any (by simp[hpl2]))))
 obtain⟨a',c',e,⟨xs,hqa⟩,⟨ys,hqc⟩,q⟩:=q1
 subst e
 obtain⟨u,u',rfl,ru,ru'⟩:=vals2 r1
 cases(show u=Value.ref a' from ru)
 cases(show u'=Value.ref c' from ru')
 obtain⟨its,rv,pt,hz⟩:=I1.tuple hqa
 obtain⟨jts,rw',pl,hz2⟩:=I1.tuple hqc
 have ht:s1.heap.IsTuple a' its.toArray:=pt
 have la:a'<s1.heap.objs.size:=by obtain⟨_,e,_⟩:=ht;exact Heap.lt_size e
 have lc:c'<s1.heap.objs.size:=by obtain⟨_,e,_⟩:=(show s1.heap.IsTuple c' jts.toArray from pl);exact Heap.lt_size e
 refine call_zipTT ht (show s1.heap.IsTuple c' jts.toArray from pl) fun h' hz hTI hTO h1 h2 hsz hk=>?_
 have I2:Inv X pins σ H1 {s1 with heap:=h'}:=I1.kept (t':=s1.toks) hk
 refine wpAny_pyIter_zip (s:={s1 with heap:=h'}) hz ?_
 refine⟨s1.heap.objs.size+4,[s1.heap.objs.size+4,s1.heap.objs.size+2,s1.heap.objs.size+3,s1.heap.objs.size,s1.heap.objs.size+1],_,_,H1,rfl,I2,
  turn_zipT _ _ _ _ _ a' c' (zipApart_new la lc),⟨hz,hTI,⟨_,_,hTO⟩,h1,h2⟩,fun b hb=>?_,q⟩
 have hle:s1.heap.objs.size<=b:=by
  simp only[List.mem_cons,List.not_mem_nil,or_false]at hb
  rcases hb with rfl|rfl|rfl|rfl|rfl
  ·exact Nat.le_add_right _ _
  ·exact Nat.le_add_right _ _
  ·exact Nat.le_add_right _ _
  ·exact Nat.le_refl _
  ·exact Nat.le_add_right _ _
 exact I1.fpOk hle (I1.hok.fresh hle)
end L2
namespace L2
open PySem PySem.Spec PyProof.Rows PySem.SeqAt
def nIs:Option Int->Value->Bool
 |Option.none,Value.none=>true
 |some k,v=>Value.isInt k v
 |_,_=>false
def nH:Option Int->Int
 |Option.none=>0xFCA86420
 |some k=>hashInt k
theorem nIs_shape{k:Option Int}{v:Value}(h:nIs k v=true):(k=Option.none/\v=Value.none)\/∃i t,k=some i/\v=Value.int i t:=by
 cases k with
 |none=>
  cases v<;>first|exact .inl ⟨rfl,rfl⟩|cases h
 |some i=>
  obtain⟨t,e⟩:=Value.isInt_shape (k:=i) (v:=v) h
  exact .inr ⟨i,t,rfl,e⟩
section
variable{prog:Program}{w:World}{A:Around}{E:Value->Shared->Prop}{s:Shared}
theorem pyHash_none{Q:Int->Shared->Prop}(h:Q 0xFCA86420 {s with toks:=s.toks+1}):wpAny (model prog w) A (pyHash .none) Q E s:=by
 have hT:s.TypeIs .none "NoneType":=rfl
 unfold pyHash
 have hv:[Value.none].any Value.onHeap=false:=rfl
 show wpAny _ _ (pyHashByItsType .none) _ _ _
 unfold pyHashByItsType
 refine wpAny_bind ?_
 rw[cRoomFor,if_neg (by rw[hv];exact Bool.false_ne_true)]
 refine wpAny_pure ?_
 refine wpAny_bind (wpAny_specialOf hT F.slot_NoneType_hash.lookup ?_)
 show wpAny _ _ (if(some (Value.builtin "NoneType.__hash__")==some Value.none)=true then _ else _) Q E s
 rw[if_neg (by rw[beq_builtin_none];exact Bool.false_ne_true)]
 refine wpAny_bind (wpAny_specialOf hT F.slot_NoneType_hash.lookup ?_)
 show wpAny _ _ (callSpecialIfBoundUnlessNone? .none "__hash__" _>>=_) Q E s
 refine wpAny_bind (wpAny_callSpecialIfBoundUnlessNone?_slot hT F.slot_NoneType_hash
  (wpAny_call_entry F.slot_NoneType_hash hT F.entry_NoneType_hash
   (show wpAny _ _ (do ret (<-mkInt 0xFCA86420)) _ _ s from wpAny_ret_mkInt ?_) (F.args_NoneType_hash_1 _)))
 show wpAny _ _ (if(decide (-(2:Int)^63<=0xFCA86420)&&decide ((0xFCA86420:Int)<2^63))=true then _ else _) Q E _
 rw[if_pos (by decide)]
 exact wpAny_pure h
end
def nKind(prog:Program)(w:World):PySem.KeyKind prog w (Option Int)where
 is:=nIs
 hash:=nH
 inj:=fun v a b ha hb=>by
  rcases nIs_shape ha with⟨rfl,rfl⟩|⟨i,t,rfl,rfl⟩
  ·rcases nIs_shape hb with⟨rfl,_⟩|⟨j,u,rfl,e⟩
   ·rfl
   ·cases e
  ·rcases nIs_shape hb with⟨rfl,e⟩|⟨j,u,rfl,e⟩
   ·cases e
   ·injection e with e1 _;rw[e1]
 byValue:=fun k v h=>by
  rcases nIs_shape h with⟨rfl,rfl⟩|⟨i,t,rfl,rfl⟩<;>rfl
 pyHash:=fun hv h=>by
  rcases nIs_shape hv with⟨rfl,rfl⟩|⟨i,t,rfl,rfl⟩
  ·exact pyHash_none h
  ·exact wpAny_pyHash_int h
 eqBool:=fun{A E s a b u v Q} hu hv h=>by
  rcases nIs_shape hu with⟨rfl,rfl⟩|⟨i,t,rfl,rfl⟩
  ·rcases nIs_shape hv with⟨rfl,rfl⟩|⟨j,u,rfl,rfl⟩
   ·exact EqAt.same _ _ _ _ _ (by simpa using h)
   ·exact EqAt.none_int j u _ _ _ _ (by simpa using h)
  ·rcases nIs_shape hv with⟨rfl,rfl⟩|⟨j,u,rfl,rfl⟩
   ·exact EqAt.int_none i t _ _ _ _ (by simpa using h)
   ·have e:decide (some i=some j)=(i==j):=by
     by_cases z:i=j
     ·subst z;simp
     ·rw[decide_eq_false (fun q=>z (Option.some.inj q))];exact(beq_eq_false_iff_ne.mpr z).symm
    rw[e]at h
    exact wpAny_eqBool_int h
 «strs»:=fun k x t v h=>by
  rcases nIs_shape h with⟨rfl,e⟩|⟨i,u,rfl,e⟩
  ·cases e
  ·cases e
end L2
namespace PySem
open Sem (wp)
theorem lk_list_keys:typeLookup (.type "list") "keys"=pure none:=by rw[typeLookup_type,builtinLookup_eq_fast];kernel_rfl
section
variable{prog:Program}{w:World}{A:Around}{E:Value->Shared->Prop}{s:Shared}
theorem keys_miss_list{a:Addr}{o:Obj}{xs:Array Value}{k:Nat}{Q:Option Value->Shared->Prop}(hx:s.heap.get? a=some o)(hc:o.cls= .type "list")(hdat:o.data= .seq xs k)(hd:o.dict=none)(hA:A.handled=none)
  (h:∀h' tk,(∀b o,s.heap.get? b=some o->h'.get? b=some o)->Q none {s with heap:=h',toks:=tk}):wpAny (model prog w) A (getAttr? (.ref a) "keys") Q E s:=by
 obtain⟨c,dct,dat,sl⟩:=o
 simp only at hc hdat hd
 subst hc hdat hd
 obtain⟨hp,g,d,tk,os⟩:=s
 have hT:∀tk',(⟨hp,g,d,tk',os⟩:Shared).TypeIs (.ref a) "list":=fun _=>⟨_,hx,rfl⟩
 have f1:=sub_AttributeError
 have f3:=F.slot_list_getattribute.lookup
 have f4:=F.slot_list_getattribute.bind (.ref a)
 have f5:=am_list_getattr_none
 have hm:=lk_list_keys
 unfold getAttr? getAttrBy? getAttrBy
 repeat (any_goals (first|assumption|exact hT _|((with_reducible show wpAny _ _ (call (Value.builtin "list.__getattribute__") _ _) _ _ _);refine call_meets F.slot_list_getattribute (hT _) am_entry_list_getattribute (F.args_list_getattribute_2 _ _) (meets_getattribute_miss_list a xs k sl "keys" _ hm (by decide+kernel) (by size_fits)) ⟨hx,hA,fun h' tk' e hx'=>?_⟩)|wp_step))
 obtain⟨t',u',he⟩:=hx'.there
 have hTe:∀tk',(⟨h',g,d,tk',os⟩:Shared).TypeIs (.ref e) "AttributeError":=fun _=>⟨_,he,rfl⟩
 show wpAny _ _ (getattributeRaised _ _ _ _ _ _ _) _ _ _
 unfold getattributeRaised
 repeat (any_goals (first|assumption|exact hTe _|wp_step))
 exact h _ _ hx'.keeps
end
end PySem
namespace DictL
open PySem PySem.Spec PyProof.Rows
theorem entry_loop:entryFor table "dict.update.loop"=some Builtin.«dict.update.loop»:=entryFor_of_tree (by kernel_rfl)
theorem plain_loop:plainId "dict.update.loop"=true:=by decide+kernel
section
variable{prog:Program}{w:World}{K:Type}[DecidableEq K]{knd:KeyKind prog w K}{A:Around}{R:Result->Shared->Prop}{I:Addr}{fp wr:List Addr}{G:Array GenState->Array GenState->Prop}{n:Nat}{P:Nat->Value->Prop}{St:Nat->Shared->Prop}
def upTo(kv:Nat->K×Value)(i:Nat):List (K×Value):=((List.range i).map kv).foldl (fun acc p=>stored acc p.1 p.2) []
theorem upTo_succ(kv:Nat->K×Value)(i:Nat):upTo kv (i+1)=stored (upTo kv i) (kv i).1 (kv i).2:=by
 unfold upTo;rw[List.range_succ,List.map_append,List.foldl_append];rfl
theorem stored_len(kvs:List (K×Value))(k:K)(v:Value):(stored kvs k v).length<=kvs.length+1:=by
 unfold stored
 split
 ·rw[List.length_map];omega
 ·rw[List.length_append];exact Nat.le_refl _
theorem upTo_len(kv:Nat->K×Value):∀i,(upTo kv i).length<=i
 |0=>Nat.le_refl _
 |i+1=>by
  rw[upTo_succ]
  have:=upTo_len kv i
  have:=stored_len (upTo kv i) (kv i).1 (kv i).2
  omega
def PairAt(knd:KeyKind prog w K)(h:Heap)(b:Addr)(p:K×Value):Prop:=∃o key m,h.get? b=some o/\o.cls= .type "tuple"/\o.data= .seq #[key,p.2] m/\knd.is p.1 key=true
theorem loop(W:WalksS prog w A.in1 I fp wr G n P St)(D:Addr)(hDf:D ∉ fp)(kv:Nat->K×Value)(hb:n<=1000):
  ∀(k i:Nat)(s:Shared),n-i=k->i<=n->St i s->(∀(j:Nat) v,P j v->∃b,v= .ref b/\PairAt knd s.heap b (kv j)/\b ∉ D::wr)->
   s.heap.DictOf knd D (upTo kv i)->
   (∀s',Moved (D::wr) G s s'->s'.heap.DictOf knd D (upTo kv n)->R (.ok (.ret .none)) s')->
   codeAny (model prog w) A (.builtin "dict.update.loop" ⟨[.ref D,.ref I,rawInt i,.none],[]⟩) R s:=by
 have hDw:D ∉ wr:=fun h=>hDf (W.sub _ h)
 have hsub:∀b∈wr,b∈D::wr:=fun b hb=>List.mem_cons_of_mem _ hb
 have keepD:∀{s s':Shared}{kvs:List (K×Value)},(∀b o,b ∉ wr->s.heap.get? b=some o->s'.heap.get? b=some o)->s.heap.DictOf knd D kvs->s'.heap.DictOf knd D kvs:=by
  intro s s' kvs hk hS
  obtain⟨o,es,ep,ho,r⟩:=hS
  exact⟨o,es,ep,hk D o hDw ho,r⟩
 intro k
 induction k with
 |zero=>
  intro i s hk hi hst hv hS hR
  have hin:i=n:=by omega
  subst hin
  refine codeAny_builtin entry_loop ?_
  rw[Around.under_plainId plain_loop _]
  show wpAny _ A.in1 (pyNext (.ref I)>>=_) _ _ s
  refine wpAny_bind (W.done s _ _ hst fun s' hm=>?_)
  show wpAny _ A.in1 (Builtin.Dict.addKeywords D []>>=_) _ _ s'
  exact wpAny_bind (wpAny_pure (wpAny_pure (hR s' (hm.mono hsub) (keepD hm.heap hS))))
 |succ k ih=>
  intro i s hk hi hst hv hS hR
  have hlt:i<n:=by omega
  refine codeAny_builtin entry_loop ?_
  rw[Around.under_plainId plain_loop _]
  show wpAny _ A.in1 (pyNext (.ref I)>>=_) _ _ s
  refine wpAny_bind (W.item i s _ _ hlt hst fun v s' hP hst' hm=>?_)
  obtain⟨b,rfl,hp,hbn⟩:=hv i v hP
  have hbw:b ∉ wr:=fun z=>hbn (hsub b z)
  have hS':=keepD hm.heap hS
  obtain⟨o,key,m,ho,hc,hd,hk'⟩:=hp
  have ho':=hm.heap b o hbw ho
  have hT:s'.TypeIs (.ref b) "tuple":=⟨o,ho',hc⟩
  show wpAny _ A.in1 (holding [Value.ref b] _>>=_) _ _ s'
  refine wpAny_bind (wpAny_holding ?_)
  refine wpAny_bind ?_
  refine wpAny_tryCatch ?_
  unfold Builtin.Dict.pairItems
  refine wpAny_bind (wpAny_typeOf hT ?_)
  rw[if_pos (by decide)]
  refine wpAny_bind (wpAny_seqItems ho' hd ?_)
  refine wpAny_pure ?_
  show wpAny _ A.in1 (holding [key,(kv i).2] (dictSet D key (kv i).2)) _ _ s'
  refine wpAny_holding ?_
  have hlen:=upTo_len kv i
  refine wpAny_dictSet_pairs (hsz:=L2.leMil (by omega)) hk' hS' fun h' hD' hsb=>?_
  rw[<-upTo_succ]at hD'
  refine wpAny_pure ⟨plainId_quiet plain_loop _,?_⟩
  show codeAny _ A (.builtin "dict.update.loop" ⟨[.ref D,.ref I,rawInt ((i+1:Nat):Int),.none],[]⟩) R _
  refine ih (i+1) _ (by omega) hlt (W.frame _ s' _ _ hst' (Nat.le_add_right _ _) fun c hc' o' e=>?_) (fun j v hj=>?_) hD' fun s'' hm'' hS''=>?_
  ·rw[hsb.2 c (fun h:c=D=>hDf (by rw[<-h];exact hc'))];exact e
  ·obtain⟨b2,e2,⟨ob,key2,m2,h1,h2⟩,hn2⟩:=hv j v hj
   refine⟨b2,e2,⟨ob,key2,m2,?_,h2⟩,hn2⟩
   exact(hsb.2 b2 (fun h:b2=D=>hn2 (by rw[h];exact List.mem_cons_self))).trans (hm.heap b2 ob (fun z=>hn2 (hsub b2 z)) h1)
  ·refine hR s'' (Moved.trans W.gtrans ((hm.mono hsub).then_heap (Nat.le_add_right _ _) fun c o' hc' e=>?_) hm'') hS''
   rw[hsb.2 c (fun h:c=D=>hc' (by rw[h];exact List.mem_cons_self))];exact e
end
section
variable{prog:Program}{w:World}{K:Type}[DecidableEq K]{knd:KeyKind prog w K}{A:Around}{E:Value->Shared->Prop}{s:Shared}
theorem call_dict_list{l:Addr}{items:Array Value}{kv:Nat->K×Value}{Q:Value->Shared->Prop}(hh:A.handled=none)(hl:∃o m,s.heap.get? l=some o/\o.cls= .type "list"/\o.dict=none/\o.data= .seq items m)
  (hi:∀(i:Nat)(v:Value),items[i]?=some v->∃b,v= .ref b/\PairAt knd s.heap b (kv i)) (hb:items.size<=1000)
  (h:∀(h':Heap)(tk:Nat),h'.DictOf knd s.heap.objs.size (upTo kv items.size)->(∀b o,s.heap.get? b=some o->h'.get? b=some o)->Q (.ref s.heap.objs.size) {s with heap:=h',toks:=tk}):
  wpAny (model prog w) A (call (.type "dict") [.ref l]) Q E s:=by
 obtain⟨ol,ml,hol,hcl,hdl,hsl⟩:=hl
 refine callType_codes (Q₁:=fun obj s₁=>obj= .ref s.heap.objs.size/\s₁={s with heap:=s.heap.push {cls:= .type "dict",data:= .dict #[]}}) F.kt_called_dict (F.kt_typeCall_dict_1 _) F.entry_dict_init (kt_code_dict_new _ ⟨rfl,rfl⟩) ?_
 rintro obj s₁ ⟨rfl,rfl⟩
 have hnew:(s.heap.push {cls:= .type "dict",data:= .dict #[]}).DictOf knd s.heap.objs.size []:=Heap.DictOf.new s.heap
 have hol':(s.heap.push {cls:= .type "dict",data:= .dict #[]}).get? l=some ol:=Heap.get?_push_of_some _ hol
 refine⟨hnew.typeIs,F.args_dict_init_2 _ _,?_⟩
 unfold Builtin.«dict.__init__»
 refine wpAny_bind ?_
 unfold Builtin.Dict.selfAndRest
 refine wpAny_bind (wpAny_notOrdered_dict hnew.typeIs ?_)
 show wpAny _ _ (pure (s.heap.objs.size,[Value.ref l])) _ _ _
 refine wpAny_pure ?_
 show wpAny _ _ (Builtin.Dict.updateFrom "dict.__init__" s.heap.objs.size (.ref l) [] .none) _ _ _
 unfold Builtin.Dict.updateFrom
 refine wpAny_bind (wpAny_typeOf (show Shared.TypeIs _ (.ref l) "list" from⟨ol,hol',hcl⟩) ?_)
 rw[if_pos (by decide)]
 refine wpAny_bind (keys_miss_list hol' hcl hsl hdl (by simp[hh]) fun h1 tk1 k1=>?_)
 rw[if_pos (show(Option.isNone (none:Option Value))=true from rfl)]
 refine wpAny_bind (wpAny_rule ?_)
 have hol1:=k1 _ _ hol'
 have hl1:h1.IsList l items:=⟨ol,hol1,hcl,ml,hsl⟩
 refine wpAny_bind (wpAny_pyIter_list hl1 ?_)
 have hD1:∀o,s.heap.get? s.heap.objs.size=some o->False:=fun o e=>absurd (Heap.lt_size e) (Nat.lt_irrefl _)
 have hDI:s.heap.objs.size<h1.objs.size:=by
  obtain⟨o,_,_,ho,_⟩:=hnew
  exact Heap.lt_size (k1 _ _ ho)
 have hlI:l<h1.objs.size:=Heap.lt_size hol1
 have hlD:l<s.heap.objs.size:=Heap.lt_size hol
 have up:∀b o,s.heap.get? b=some o->(h1.push {cls:= .type "list_iterator",data:= .fields #[.ref l,.int 0 0]}).get? b=some o:=fun b o e=>Heap.get?_push_of_some _ (k1 _ _ (Heap.get?_push_of_some _ e))
 refine wpAny_pure ⟨plainId_quiet plain_loop _,?_⟩
 have hh2:A.in1.in1.handled=none:=by simp[hh]
 refine loop (knd:=knd) ((Walks.list hh2 h1.objs.size l (Nat.ne_of_lt hlI) items).toS) s.heap.objs.size ?hf kv hb (items.size-0) 0 _ (by omega) (Nat.zero_le _)
  ⟨⟨_,Heap.get?_push_size _ rfl,rfl,rfl⟩,(hl1.push _)⟩ (fun i v hv=>?hval) ?hS0 ?hR
 case hf=>
  simp only[List.mem_cons,List.mem_singleton,List.not_mem_nil,or_false,not_or]
  exact⟨Nat.ne_of_lt hDI,Nat.ne_of_gt hlD⟩
 case hval=>
  obtain⟨b,e,o,key,m,h1',h2'⟩:=hi i v hv
  have hbs:b<s.heap.objs.size:=Heap.lt_size h1'
  refine⟨b,e,⟨o,key,m,up _ _ h1',h2'⟩,?_⟩
  simp only[List.mem_cons,List.mem_singleton,List.not_mem_nil,or_false,not_or]
  exact⟨Nat.ne_of_lt hbs,Nat.ne_of_lt (Nat.lt_trans hbs hDI)⟩
 case hS0=>
  obtain⟨o,es,ep,ho,r⟩:=hnew
  exact⟨o,es,ep,Heap.get?_push_of_some _ (k1 _ _ ho),r⟩
 case hR=>
  intro s' hm hS'
  obtain⟨h',g',d',tk',os'⟩:=s'
  have eg:g'=s.gens:=hm.gens
  have ed:d'=s.drawn:=hm.drawn
  have eo:os'=s.os:=hm.os
  subst eg;subst ed;subst eo
  refine⟨rfl,h h' tk' hS' fun b o e=>?_⟩
  have hbs:b<s.heap.objs.size:=Heap.lt_size e
  exact hm.heap b o (by simp only[List.mem_cons,List.mem_singleton,List.not_mem_nil,or_false,not_or];exact⟨Nat.ne_of_lt hbs,Nat.ne_of_lt (Nat.lt_trans hbs hDI)⟩) (up b o e)
end
end DictL
namespace L2
open PySem PySem.Spec PyProof.Rows
def nV:Option Int->V
 |Option.none=> .non
 |some i=> .int i
theorem nV_is{P:Program}{w:World}{k:Option Int}{u:Value}(r:RelV (nV k) u):(nKind P w).is k u=true:=by
 cases k with
 |none=>cases(show u=Value.none from r);rfl
 |some i=>
  obtain⟨t,rfl⟩:=(show∃t,u=Value.int i t from r)
  show Value.isInt i (.int i t)=true
  simp[Value.isInt]
def dnHO(P:Program)(w:World)(a:Addr)(kvs:List (Option Int×V)):HO:= .ext fun h=>kvs.length<=sizeLine/\(a==sysModules)=false/\∃vs,KV kvs vs/\h.DictOf (nKind P w) a vs
theorem dn_ok{P:Program}{w:World}{H:Hp}{h:Heap}{a:Addr}{kvs:List (Option Int×V)}{vs:List (Option Int×Value)}(z:kvs.length<=sizeLine)(hd:(a==sysModules)=false)(rel:KV kvs vs)(dd:h.DictOf (nKind P w) a vs):ObjOk P w H h a (dnHO P w a kvs):=by
 refine⟨⟨z,hd,vs,rel,dd⟩,let⟨o,_,_,ho,_⟩:=dd;⟨o,ho⟩,fun h1 h2 x k=>?_⟩
 obtain⟨z1,z2,vs',r',o,es,ep,ho,r⟩:=x
 exact⟨z1,z2,vs',r',o,es,ep,k o ho,r⟩
section
variable{X:Cx}
theorem dn_of{pins:List (Addr×Obj)}{σ:St}{H:Hp}{s:Shared}{a:Addr}{kvs:List (Option Int×V)}(I:Inv X pins σ H s)(e:H a=some (dnHO X.prog X.w a kvs)):kvs.length<=sizeLine/\(a==sysModules)=false/\∃vs,KV kvs vs/\s.heap.DictOf (nKind X.prog X.w) a vs:=(I.hok a _ e).1
def tDNotInN(P:Program)(w:World)(ty td:TE):TE:=fun σ H Q=>ty σ H fun y H1=>td σ H1 fun x H2=>∃a kvs k,x= .ref a/\y=nV k/\H2 a=some (dnHO P w a kvs)/\Q (.bl (!(valV kvs k).isSome)) H2
theorem pc_dnotinN{i o:Expr}{ty td:TE}(hi:PE X i ty)(ho:PE X o td):PC X .NotIn i o (tDNotInN X.prog X.w ty td):=by
 intro pins s σ H Q I h
 refine thn (hi pins s σ H _ I h) fun iv s1⟨y,H1,I1,ry,q1⟩=>thn (ho pins s1 σ H1 _ I1 q1) fun u s2⟨x,H2,I2,rx,a,kvs,k,ex,ey,e,q2⟩=>?_
 subst ex ey
 obtain rfl:u=Value.ref a:=rx
 obtain⟨z,hd,vs,rel,dd⟩:=dn_of I2 e
 refine wpAny_notIn_of (nV_is ry) hd dd.mapOf ?_
 rw[<-(rel.val k).isSome_eq]
 exact⟨.bl (!(valV kvs k).isSome),H2,I2.tok _,rfl,q2⟩
def fromPairs(ps:List (Option Int×V)):List (Option Int×V):=ps.foldl (fun acc p=>putK acc p.1 p.2) []
def rDictN(P:Program)(w:World)(K:PySem.W.Frag):List V->Hp->VK->Prop:=fun xs H Q=>∃p ys,∃ps:List (Option Int×V),xs=[.ref p]/\SqL K H p ys/\ys.length=ps.length/\ys.length<=1000/\
 (∀(i:Nat) y pr,ys[i]?=some y->ps[i]?=some pr->∃b,y= .ref b/\H b=some (.tup [nV pr.1,pr.2]))/\∀q H',Same H H'->H' q=some (dnHO P w q (fromPairs ps))->Q (.ref q) H'
theorem fromPairs_len(ps:List (Option Int×V)):(fromPairs ps).length<=ps.length:=by
 have key:∀(ps acc:List (Option Int×V)),(ps.foldl (fun acc p=>putK acc p.1 p.2) acc).length<=acc.length+ps.length:=by
  intro ps
  induction ps with
  |nil=>intro acc;exact Nat.le_refl _
  |cons p ps ih=>
   intro acc
   have h1:=ih (putK acc p.1 p.2)
   have h2:=length_putK acc p.1 p.2
   rw[List.length_cons]
   show(ps.foldl (fun acc p=>putK acc p.1 p.2) (putK acc p.1 p.2)).length<=_
   omega
 have:=key ps []
 simpa[fromPairs]using this
theorem fromPairs_kv{ps:List (Option Int×V)}{kv:Nat->Option Int×Value}(h:∀i,(hi:i<ps.length)->(kv i).1=ps[i].1/\RelV ps[i].2 (kv i).2):∀n,n<=ps.length->KV (fromPairs (ps.take n)) (DictL.upTo kv n)
 |0,_=> .nil
 |n+1,hn=>by
  obtain⟨h1,h2⟩:=h n (by omega)
  rw[List.take_add_one,List.getElem?_eq_getElem (by omega),DictL.upTo_succ]
  unfold fromPairs
  rw[List.foldl_append]
  have ih:=fromPairs_kv h n (by omega)
  show KV (putK (fromPairs (ps.take n)) ps[n].1 ps[n].2) _
  rw[h1]
  exact ih.put _ h2
theorem call_dictN{k:Nat}(hr:Room k X.A):CallR X (.type "dict") (rDictN X.prog X.w X.K):=by
 intro pins s σ H xs us Q I r h
 obtain⟨p,ys,ps,rfl,hp,hlen,h1000,hk,q⟩:=h
 obtain⟨u,rfl,rx⟩:=vals1 r
 cases(show u=Value.ref p from rx)
 obtain⟨vs,rv,pl,hz⟩:=I.list hp
 have hvl:=rv.length
 have ex:∀i:Nat,∃pr:Option Int×Value,∀(hi:i<ps.length),pr.1=ps[i].1/\RelV ps[i].2 pr.2/\∀v,vs[i]?=some v->∃b,v= .ref b/\DictL.PairAt (nKind X.prog X.w) s.heap b pr:=fun i=>by
  by_cases hi:i<ps.length
  ·have hy:ys[i]?=some ys[i]:=List.getElem?_eq_getElem (by omega)
   obtain⟨b,eb,hb⟩:=hk i _ _ hy (List.getElem?_eq_getElem hi)
   obtain⟨u2,e2,r2⟩:=rv.get hy
   obtain⟨_,its,ri,o,ho,hc,n,hd⟩:=I.hok b _ hb
   obtain⟨u1,u3,rfl,ra,rb⟩:=vals2 ri
   refine⟨(ps[i].1,u3),fun _=>⟨rfl,rb,fun v hv=>?_⟩⟩
   rw[hv]at e2
   cases e2
   rw[eb]at r2
   exact⟨b,r2,o,u1,n,ho,hc,hd,nV_is ra⟩
  ·exact⟨(none,.none),fun h=>absurd h hi⟩
 obtain⟨kv,hkv⟩:=Classical.axiomOfChoice ex
 obtain⟨o,n,ho,hc,hdn,hd⟩:=pl
 refine DictL.call_dict_list (knd:=nKind X.prog X.w) (kv:=kv) hr.hd ⟨o,n,ho,hc,hdn,hd⟩ (fun i v hv=>?_) (by rw[List.size_toArray];omega) fun h' tk hD kp=>?_
 ·have hv':vs[i]?=some v:=by simpa using hv
  have hi:i<vs.length:=(List.getElem?_eq_some_iff.mp hv').1
  exact(hkv i (by omega)).2.2 v hv'
 ·have esz:vs.toArray.size=ps.length:=by rw[List.size_toArray];omega
  rw[esz]at hD
  have rel:=fromPairs_kv (ps:=ps) (kv:=kv) (fun i hi=>⟨(hkv i hi).1,(hkv i hi).2.1⟩) ps.length (Nat.le_refl _)
  rw[List.take_length]at rel
  have hlp:=fromPairs_len ps
  refine⟨.ref s.heap.objs.size,_,I.laid (t':=tk) (o:=dnHO X.prog X.w s.heap.objs.size (fromPairs ps)) kp (Nat.le_refl _) ?_,rfl,q _ _ (same_add (I.hok.fresh (Nat.le_refl _))) upd_same⟩
  exact dn_ok (leMil (by omega)) (beq_eq_false_iff_ne.mpr (Ne.symm (Nat.ne_of_lt I.big))) rel hD
theorem fromPairs_in(ps:List (Option Int×V))(k:Option Int):(valV (fromPairs ps) k).isSome=true↔∃p∈ps,p.1=k:=by
 have key:∀(ps acc:List (Option Int×V)),(valV (ps.foldl (fun acc p=>putK acc p.1 p.2) acc) k).isSome=true↔(valV acc k).isSome=true\/∃p∈ps,p.1=k:=by
  intro ps
  induction ps with
  |nil=>intro acc;exact⟨.inl,fun h=>h.elim id fun⟨p,hp,_⟩=>by cases hp⟩
  |cons p ps ih=>
   intro acc
   show(valV (ps.foldl (fun acc p=>putK acc p.1 p.2) (putK acc p.1 p.2)) k).isSome=true↔_
   rw[ih,valV_put]
   by_cases e:k=p.1
   ·rw[if_pos e]
    exact⟨fun _=> .inr ⟨p,.head _,e.symm⟩,fun _=> .inl rfl⟩
   ·rw[if_neg e]
    constructor
    ·rintro(h|⟨q,hq,e2⟩)
     ·exact .inl h
     ·exact .inr ⟨q,.tail _ hq,e2⟩
    ·rintro(h|⟨q,hq,e2⟩)
     ·exact .inl h
     ·cases hq with
      |head=>exact absurd e2.symm e
      |tail _ hq=>exact .inr ⟨q,hq,e2⟩
 have:=key ps []
 rw[show(fromPairs ps)=ps.foldl (fun acc p=>putK acc p.1 p.2) []from rfl,this]
 exact⟨fun h=>h.elim (fun z=>by cases z) id,.inr⟩
end
theorem same_new{H:Hp}{d:Addr}{o:HO}(h:H d=Option.none):Same H (upd H d o):=fun b u e=>by rw[upd_ne (ne_of_none e h)];exact e
theorem Same.none{H H':Hp}(s:Same H H'){d:Addr}(h:H' d=Option.none):H d=Option.none:=by
 cases z:H d with
 |none=>rfl
 |some o=>rw[s d o z]at h;cases h
theorem Same.wr{H H':Hp}(s:Same H H'){d:Addr}{o:HO}(h:H d=Option.none):Same H (upd H' d o):=fun b u e=>by rw[upd_ne (ne_of_none e h)];exact s b u e
end L2
namespace My
open PySem L2
theorem bLen:bootBuiltins "len"=some (.builtin "len"):=by decide+kernel
theorem bIsi:bootBuiltins "isinstance"=some (.builtin "isinstance"):=by decide+kernel
theorem bInt:bootBuiltins "int"=some (.type "int"):=by decide+kernel
theorem bBool:bootBuiltins "bool"=some (.type "bool"):=by decide+kernel
theorem bTuple:bootBuiltins "tuple"=some (.type "tuple"):=by decide+kernel
theorem bList:bootBuiltins "list"=some (.type "list"):=by decide+kernel
theorem bMax:bootBuiltins "max"=some (.builtin "max"):=by decide+kernel
theorem bMin:bootBuiltins "min"=some (.builtin "min"):=by decide+kernel
theorem bDict:bootBuiltins "dict"=some (.type "dict"):=by decide+kernel
structure Bi(mg:Str->Option Value):Prop where
 len:mg "len"=none
 isi:mg "isinstance"=none
 int:mg "int"=none
 bool:mg "bool"=none
 tuple:mg "tuple"=none
 list:mg "list"=none
 range:mg "range"=none
 max:mg "max"=none
 min:mg "min"=none
 zip:mg "zip"=none
 dict:mg "dict"=none
theorem kit(K:PySem.W.Frag)(T U:String)(b:Bool)(h:PySem.W.kitOne [] (.type T) (.type U)=some b):PySem.W.kitOne K (.type T) (.type U)=some b:=h
def TieOk(H:Hp)(n:Int)(t:V):Prop:=∃q i j,t=V.ref q/\H q=some (.tup [.int i,.int j])/\0<=i/\i<n/\0<=j/\j<n/\i≠j
def Ties(H:Hp)(n:Int)(ts:List V):Prop:=∀t∈ts,TieOk H n t
theorem TieOk.same{H H':Hp}{n:Int}{t:V}(h:TieOk H n t)(k:Same H H'):TieOk H' n t:=let⟨q,i,j,a,b,c⟩:=h;⟨q,i,j,a,k _ _ b,c⟩
theorem Ties.same{H H':Hp}{n:Int}{ts:List V}(h:Ties H n ts)(k:Same H H'):Ties H' n ts:=fun t ht=>(h t ht).same k
structure NetZ(H:Hp)(p:Addr)(n:Nat)(q:Addr)(ts:List V)(es:List (Nat×Nat)):Prop where
 e1:H p=some (.tup [.int (n:Int),.ref q])
 e2:H q=some (.tup ts)
 len:ts.length=es.length
 tie:∀(i:Nat) t,ts[i]?=some t->∃a,t=V.ref a/\H a=some (.tup [.int ((es.getD i (0,0)).1:Int),.int ((es.getD i (0,0)).2:Int)])
 l200:es.length<=200
 n60:n<=60
 ok:∀e∈es,e.1<n/\e.2<n/\e.1≠e.2
theorem NetZ.same{H H':Hp}{p q:Addr}{n:Nat}{ts:List V}{es:List (Nat×Nat)}(h:NetZ H p n q ts es)(k:Same H H'):NetZ H' p n q ts es:=
 ⟨k _ _ h.e1,k _ _ h.e2,h.len,fun i t e=>let⟨a,x,y⟩:=h.tie i t e;⟨a,x,k _ _ y⟩,h.l200,h.n60,h.ok⟩
theorem getD_mem{es:List (Nat×Nat)}{k:Nat}(h:k<es.length):es.getD k (0,0)∈es:=by rw[List.getD_eq_getElem?_getD,List.getElem?_eq_getElem h];exact List.getElem_mem h
theorem NetZ.at'{H:Hp}{p q:Addr}{n:Nat}{ts:List V}{es:List (Nat×Nat)}(h:NetZ H p n q ts es){k:Nat}(hk:k<es.length):∃a,ts[k]?=some (.ref a)/\H a=some (.tup [.int ((es.getD k (0,0)).1:Int),.int ((es.getD k (0,0)).2:Int)]):=by
 have hk':k<ts.length:=by rw[h.len];exact hk
 obtain⟨a,x,y⟩:=h.tie k _ (List.getElem?_eq_getElem hk')
 exact⟨a,by rw[List.getElem?_eq_getElem hk',x],y⟩
theorem ties_es{H:Hp}{n:Int}:∀{ts:List V},Ties H n ts->∃es:List (Nat×Nat),ts.length=es.length/\(∀(i:Nat) t,ts[i]?=some t->∃a,t=V.ref a/\H a=some (.tup [.int ((es.getD i (0,0)).1:Int),.int ((es.getD i (0,0)).2:Int)]))/\∀e∈es,(e.1:Int)<n/\(e.2:Int)<n/\e.1≠e.2
 |[],_=>⟨[],rfl,(fun i t e=>by rw[List.getElem?_nil]at e;cases e),fun e h=>by cases h⟩
 |t::ts,h=>by
  obtain⟨es,h1,h2,h3⟩:=ties_es (ts:=ts) fun u hu=>h u (.tail _ hu)
  obtain⟨q,i,j,rfl,hq,b1,b2,b3,b4,b5⟩:=h t (.head _)
  refine⟨(i.toNat,j.toNat)::es,by rw[List.length_cons,List.length_cons,h1],fun k u e=>?_,fun e he=>?_⟩
  ·cases k with
   |zero=>
    rw[List.getElem?_cons_zero]at e
    cases e
    refine⟨q,rfl,?_⟩
    show H q=some (.tup [.int ((i.toNat:Nat):Int),.int ((j.toNat:Nat):Int)])
    rw[Int.toNat_of_nonneg b1,Int.toNat_of_nonneg b3]
    exact hq
   |succ k=>
    rw[List.getElem?_cons_succ]at e
    obtain⟨a,x,y⟩:=h2 k u e
    exact⟨a,x,by rw[y];rfl⟩
  ·cases he with
   |head=>
    show((i.toNat:Nat):Int)<n/\((j.toNat:Nat):Int)<n/\i.toNat≠j.toNat
    omega
   |tail _ he=>exact h3 e he
theorem netZ_of{H:Hp}{p q:Addr}{n m:Int}{ts:List V}(e1:H p=some (.tup [.int m,.ref q]))(e2:H q=some (.tup ts))(l:ts.length<=200)(hT:Ties H n ts)(h0:0<=m)(h60:m<=60)(hnm:n<=m):∃es,NetZ H p m.toNat q ts es:=by
 obtain⟨es,h1,h2,h3⟩:=ties_es hT
 exact⟨es,by rw[Int.toNat_of_nonneg h0];exact e1,e2,h1,h2,by omega,by omega,fun e he=>by obtain⟨a,b,c⟩:=h3 e he;exact⟨by omega,by omega,c⟩⟩
def nl(l:List Nat):List V:=l.map fun x:Nat=>V.int (x:Int)
theorem nl_get{l:List Nat}{i x:Nat}(h:l[i]?=some x):(nl l)[i]?=some (.int (x:Int)):=by unfold nl;rw[List.getElem?_map,h];rfl
theorem nl_len(l:List Nat):(nl l).length=l.length:=by unfold nl;rw[List.length_map]
def tN:Option Nat->V
 |none=> .non
 |some t=> .int (t:Int)
def tv(tl:List (Option Nat)):List V:=tl.map tN
theorem tv_len(tl:List (Option Nat)):(tv tl).length=tl.length:=by unfold tv;rw[List.length_map]
theorem tv_get{tl:List (Option Nat)}{i:Nat}{o:Option Nat}(h:tl[i]?=some o):(tv tl)[i]?=some (tN o):=by unfold tv;rw[List.getElem?_map,h];rfl
theorem tv_inv{tl:List (Option Nat)}{i:Nat}{x:V}(h:(tv tl)[i]?=some x):∃o,tl[i]?=some o/\x=tN o:=by
 unfold tv at h
 rw[List.getElem?_map]at h
 cases e:tl[i]? with
 |none=>rw[e]at h;cases h
 |some o=>rw[e]at h;cases h;exact⟨o,rfl,rfl⟩
theorem tN_nV(o:Option Nat):tN o=nV (o.map fun t:Nat=>(t:Int)):=by cases o<;>rfl
def At(e:Nat×Nat)(p:Nat):Prop:=p=e.1\/p=e.2
def Used(es:List (Nat×Nat))(tl:List (Option Nat))(k p t:Nat):Prop:=∃j,j<k/\tl[j]?=some (some t)/\At (es.getD j (0,0)) p
def CleanTo(es:List (Nat×Nat))(tl:List (Option Nat))(k:Nat):Prop:=∀i j t,j<i->i<k->tl[i]?=some (some t)->tl[j]?=some (some t)->∀p,At (es.getD i (0,0)) p->¬At (es.getD j (0,0)) p
theorem CleanTo.zero(es:List (Nat×Nat))(tl:List (Option Nat)):CleanTo es tl 0:=fun i j t _ h=>absurd h (Nat.not_lt_zero _)
theorem Used.zero{es:List (Nat×Nat)}{tl:List (Option Nat)}{p t:Nat}:¬Used es tl 0 p t:=fun⟨j,h,_⟩=>absurd h (Nat.not_lt_zero _)
theorem Used.succ{es:List (Nat×Nat)}{tl:List (Option Nat)}{k p t:Nat}:Used es tl (k+1) p t↔Used es tl k p t\/(tl[k]?=some (some t)/\At (es.getD k (0,0)) p):=by
 constructor
 ·rintro⟨j,h,a,b⟩
  by_cases e:j=k
  ·subst e;exact .inr ⟨a,b⟩
  ·exact .inl ⟨j,by omega,a,b⟩
 ·rintro(⟨j,h,a,b⟩|⟨a,b⟩)
  ·exact⟨j,by omega,a,b⟩
  ·exact⟨k,by omega,a,b⟩
theorem CleanTo.succ{es:List (Nat×Nat)}{tl:List (Option Nat)}{k:Nat}(h:CleanTo es tl k)(hk:∀t,tl[k]?=some (some t)->∀p,At (es.getD k (0,0)) p->¬Used es tl k p t):CleanTo es tl (k+1):=by
 intro i j t hj hi h1 h2 p hp hq
 by_cases e:i=k
 ·subst e
  exact hk t h1 p hp ⟨j,hj,h2,hq⟩
 ·exact h i j t hj (by omega) h1 h2 p hp hq
abbrev ky(a b:Nat):List Key:=[Sum.inl (a:Int),Sum.inl (b:Int)]
theorem ky_inj{a b c d:Nat}(h:ky a b=ky c d):a=c/\b=d:=by
 have h1:=List.cons.inj h
 have h2:=List.cons.inj h1.2
 have e1:=Sum.inl.inj h1.1
 have e2:=Sum.inl.inj h2.1
 omega
def Keys(kvs:List (List Key×V))(R:Nat->Nat->Prop):Prop:=∀p t:Nat,(valV kvs (ky p t)).isSome=true↔R p t
theorem Keys.put{kvs:List (List Key×V)}{R:Nat->Nat->Prop}(h:Keys kvs R)(a b:Nat)(v:V):Keys (putK kvs (ky a b) v) (fun p t=>R p t\/(p=a/\t=b)):=by
 intro p t
 rw[valV_put]
 by_cases e:ky p t=ky a b
 ·rw[if_pos e]
  exact⟨fun _=> .inr (ky_inj e),fun _=>rfl⟩
 ·rw[if_neg e,h p t]
  exact⟨.inl,fun z=>z.elim id fun⟨z1,z2⟩=>absurd (by rw[z1,z2]) e⟩
def put{α:Type}(f:Nat->α)(k:Nat)(v:α):Nat->α:=fun i=>if i=k then v else f i
theorem put_same{α:Type}(f:Nat->α)(k:Nat)(v:α):put f k v k=v:=by unfold put;rw[if_pos rfl]
theorem put_ne{α:Type}(f:Nat->α){k i:Nat}(v:α)(h:i≠k):put f k v i=f i:=by unfold put;rw[if_neg h]
def lv(L:Nat->Nat)(n:Nat):List V:=(List.range n).map fun x:Nat=>V.int (L x:Int)
theorem lv_len(L:Nat->Nat)(n:Nat):(lv L n).length=n:=by unfold lv;rw[List.length_map,List.length_range]
theorem lv_get(L:Nat->Nat){n k:Nat}(h:k<n):(lv L n)[k]?=some (.int (L k:Int)):=by
 unfold lv
 rw[List.getElem?_map,List.getElem?_range h]
 rfl
theorem lv_set(L:Nat->Nat)(n k v:Nat):(lv L n).set k (.int (v:Int))=lv (put L k v) n:=by
 apply List.ext_getElem?
 intro i
 by_cases hi:i<n
 ·rw[lv_get _ hi,List.getElem?_set]
  by_cases e:k=i
  ·subst e
   rw[if_pos rfl,if_pos (by rw[lv_len];exact hi),put_same]
  ·rw[if_neg e,lv_get _ hi,put_ne _ _ (fun z=>e z.symm)]
 ·rw[List.getElem?_eq_none (by rw[List.length_set,lv_len];omega),List.getElem?_eq_none (by rw[lv_len];omega)]
def cnt(tl:List (Option Nat))(t:Nat):Nat:=tl.count (some t)
end My
namespace My
def InP(tl:List (Option Nat))(u v k:Nat):Prop:=tl[k]?=some (some u)\/tl[k]?=some (some v)
inductive RP(es:List (Nat×Nat))(tl:List (Option Nat))(u v p:Nat):Nat->Prop
 |start:RP es tl u v p p
 |step {x y k:Nat}:RP es tl u v p x->k<es.length->InP tl u v k->At (es.getD k (0,0)) x->At (es.getD k (0,0)) y->RP es tl u v p y
def RT(es:List (Nat×Nat))(tl:List (Option Nat))(u v p k:Nat):Prop:=k<es.length/\InP tl u v k/\∃x,RP es tl u v p x/\At (es.getD k (0,0)) x
structure Walk(es:List (Nat×Nat))(tl:List (Option Nat))(u v p:Nat)(F:Nat->Prop)(V W:Nat->Prop):Prop where
 rt:∀k,F k->RT es tl u v p k
 rw:∀x,W x->RP es tl u v p x
 cl:∀x,V x->∀k,k<es.length->InP tl u v k->At (es.getD k (0,0)) x->F k
 en:∀k,F k->∀x,At (es.getD k (0,0)) x->V x\/W x
 st:V p\/W p
theorem Walk.done{es:List (Nat×Nat)}{tl:List (Option Nat)}{u v p:Nat}{F V W:Nat->Prop}(h:Walk es tl u v p F V W)(hW:∀x,¬W x):∀k,F k↔RT es tl u v p k:=by
 have hV:∀x,RP es tl u v p x->V x:=fun x hx=>by
  induction hx with
  |start=>exact h.st.resolve_right (hW _)
  |step _ h1 h2 h3 h4 ih=>exact(h.en _ (h.cl _ ih _ h1 h2 h3) _ h4).resolve_right (hW _)
 exact fun k=>⟨h.rt k,fun⟨a,b,x,c,d⟩=>h.cl x (hV x c) k a b d⟩
end My
namespace L2
open PySem PySem.Spec PyProof.Rows
def tLCZ(K:PySem.W.Frag)(bs:List (Option Nat))(ta:TA)(g:TG)(tt:TT)(te:TE):TE:=fun σ H Q=>ta σ H fun vs H1=>∃a c xs ys,vs=[.ref a,.ref c]/\SqT K H1 a xs/\SqT K H1 c ys/\xs.length=ys.length/\xs.length<=100000/\∃Pv:Nat->List V->St->Hp->Prop,Pv 0 [] (bst bs σ) H1/\
 (∀i zs σ H,i<=xs.length->Pv i zs σ H->SqT K H a xs/\SqT K H c ys/\zs.length<=i)/\
 (∀i x y zs σ H,xs[i]?=some x->ys[i]?=some y->Pv i zs σ H->∀T H2,Same H H2->H2 T=some (.tup [x,y])->g (.ref T) σ H2 fun σ3 H3=>tt σ3 H3 fun b H4=>if b=true then te σ3 H4 fun v H5=>Pv (i+1) (zs++[v]) σ3 H5 else Pv (i+1) zs σ3 H4)/\
 ∀zs σ H,Pv xs.length zs σ H->∀p H',Same H H'->H' p=some (.lst zs)->Q (.ref p) H'
theorem pe_lcZ{X:Cx}{scope:Scope}{cl:List (Str×Addr)}{N:List Str}{bs:List (Option Nat)}{elts:List Expr}{x1:Nat}{tpos:Pos}{a b elt:Expr}{ifs:List Expr}{p pos' pos:Pos}{ta:TA}{g:TG}{tt:TT}{te:TE}(B:Blk X scope cl N bs)(hc:X.calm=true)
  (hgl:Gl X "zip")(hmr:X.mg "zip"=none)(ha:PA X [a,b] ta)(hm:MonoA ta)(hpl:plainE a=true)(hpl2:plainE b=true)(hg:∀C fp s H,PG (cxBlk X scope cl C N fp s H) (.Tuple elts x1 tpos) g) (ht:∀C fp s H,PTs (cxBlk X scope cl C N fp s H) ifs tt) (he:∀C fp s H,PE (cxBlk X scope cl C N fp s H) elt te)
  (hs:∀x,foldedSetIterable (.Call (.Name "zip" p) [a,b] [] pos') X.env x=pure x:=by intro _;rfl):PE X (.ListComp elt [⟨.Tuple elts x1 tpos,.Call (.Name "zip" p) [a,b] [] pos',ifs,0⟩] scope pos) (tLCZ X.K bs ta g tt te):=by
 intro pins s σ H Q I h
 refine @pe_lc X scope cl N bs _ _ elt ifs pos (iZipT X.K ta) g tt te B hc (@pi_zipT X elts x1 tpos a b ta p pos' hgl hmr ha hpl hpl2) hg ht he hs pins s σ H Q I ?_
 refine hm σ H _ _ (fun vs H1 h=>?_) h
 obtain⟨a,c,xs,ys,e,hS,hS2,hle,hz,Pv,p0,pl,ps,pd⟩:=h
 refine⟨a,c,e,⟨xs,hS⟩,⟨ys,hS2⟩,fun i m zs σ H=>m=xs.length-i/\i<=xs.length/\Pv i zs σ H,⟨xs.length,by simp,Nat.zero_le _,p0⟩,?_⟩
 rintro i m zs σ H ⟨rfl,hi,pv'⟩
 obtain⟨q,q2,ql⟩:=pl i zs σ H hi pv'
 have hz':=leMil hz
 by_cases hlt:i<xs.length
 ·have hlt2:i<ys.length:=by omega
  refine .inr ⟨⟨xs,ys,xs[i],ys[i],q,q2,by simp[hlt],by simp[hlt2]⟩,by omega,Pv (i+1),fun zs σ' H' p'=>⟨xs.length-(i+1),by omega,rfl,hlt,p'⟩,fun x H' y=>?_⟩
  obtain⟨T,u,v,rfl,hT,rfl,hu,hv⟩:=y
  exact ps i u v zs σ H (hu xs q) (hv ys q2) pv' T _ (same_add hT) upd_same
 ·have e:i=xs.length:=by omega
  subst e
  exact .inl ⟨⟨xs,ys,q,q2,.inl (Nat.le_refl _)⟩,by omega,fun p hpn=>pd zs σ H pv' p _ (same_add hpn) upd_same⟩
theorem pc_dnotinNK{X:Cx}{P:Program}{w:World}{i o:Expr}{ty td:TE}(hP:X.prog=P)(hw:X.w=w)(hi:PE X i ty)(ho:PE X o td):PC X .NotIn i o (tDNotInN P w ty td):=by
 subst hP
 cases hw
 exact pc_dnotinN hi ho
section
variable{X:Cx}
theorem lst_vals{ns:List Int}:∀{us:List Value},IntsAre us ns->Vals (ns.map V.int) us:=by
 induction ns with
 |nil=>intro us r;cases r;exact .nil
 |cons k ks ih=>
  intro us r
  cases r with
  |cons _ t hr=>exact .cons ⟨t,rfl⟩ (ih hr)
end
end L2
namespace My
def draw(ns:List Int)(k:Int):Int:=
 let cell:Int:=if ns.length>0 then ns.getD (k%(ns.length:Int)).toNat 0%2147483629+k/(ns.length:Int)*7349+1 else 2*k+1
 let c2:=(cell*48271+k*k*16807+3)%2147483647
 c2*c2%2147483629
theorem draw_nn(ns:List Int)(k:Int):0<=draw ns k:=Int.emod_nonneg _ (by decide)
theorem step_ne{a d p:Int}(h0:0<=a)(h1:a<p)(h2:1<=d)(h3:d<p):(a+d)%p≠a:=by
 by_cases h:a+d<p
 ·rw[Int.emod_eq_of_lt (by omega) h];omega
 ·have e:(a+d)%p=a+d-p:=by
   have e1:(a+d-p)%p=(a+d)%p:=by rw[Int.sub_emod_right]
   rw[<-e1]
   exact Int.emod_eq_of_lt (by omega) (by omega)
  rw[e];omega
theorem next_ne{n p:Int}(h:2<=p):(n+1)%p≠n%p:=by
 have h1:=step_ne (a:=n%p) (d:=1) (p:=p) (Int.emod_nonneg _ (by omega)) (Int.emod_lt_of_pos _ (by omega)) (by omega) (by omega)
 rw[Int.emod_add_emod]at h1
 exact h1
theorem mod_lo{n p:Int}(h:0<p):0<=n%p:=Int.emod_nonneg _ (by omega)
theorem mod_hi{n p:Int}(h:0<p):n%p<p:=Int.emod_lt_of_pos _ h
def atB(e:Nat×Nat)(p:Nat):Bool:=p==e.1||p==e.2
theorem atB_iff{e:Nat×Nat}{p:Nat}:atB e p=true↔At e p:=by
 unfold atB At
 rw[Bool.or_eq_true,beq_iff_eq,beq_iff_eq]
def dg(es:List (Nat×Nat))(k p:Nat):Nat:=((List.range k).filter fun j=>atB (es.getD j (0,0)) p).length
theorem dg_succ(es:List (Nat×Nat))(k p:Nat):dg es (k+1) p=dg es k p+if atB (es.getD k (0,0)) p then 1 else 0:=by
 unfold dg
 rw[List.range_succ,List.filter_append,List.length_append]
 congr 1
 rw[List.filter_cons]
 split<;>rfl
def IsMax(xs:List Int)(M:Int):Prop:=(xs=[]/\M=0)\/(M∈xs/\∀a∈xs,a<=M)
theorem IsMax.uniq{xs:List Int}{M M':Int}(h:IsMax xs M)(h':IsMax xs M'):M=M':=by
 rcases h with⟨e,h⟩|⟨h1,h2⟩<;>rcases h' with⟨e',h'⟩|⟨h1',h2'⟩
 ·omega
 ·rw[e]at h1';cases h1'
 ·rw[e']at h1;cases h1
 ·have:=h2 _ h1';have:=h2' _ h1;omega
def dl(es:List (Nat×Nat))(n:Nat):List Int:=(List.range n).map fun p:Nat=>(dg es es.length p:Int)
theorem most_le{es:List (Nat×Nat)}{n:Nat}{M:Int}(h:IsMax (dl es n) M){p:Nat}(hp:p<n):(dg es es.length p:Int)<=M:=by
 have hm:(dg es es.length p:Int)∈dl es n:=List.mem_map.mpr ⟨p,List.mem_range.mpr hp,rfl⟩
 rcases h with⟨e,_⟩|⟨_,h⟩
 ·rw[e]at hm;cases hm
 ·exact h _ hm
theorem dg_le(es:List (Nat×Nat))(k p:Nat):dg es k p<=k:=by
 unfold dg
 exact Nat.le_trans (List.length_filter_le _ _) (by rw[List.length_range];exact Nat.le_refl _)
theorem most_nn{es:List (Nat×Nat)}{n:Nat}{M:Int}(h:IsMax (dl es n) M):0<=M/\M<=es.length:=by
 rcases h with⟨_,h⟩|⟨h,_⟩
 ·omega
 ·obtain⟨p,_,rfl⟩:=List.mem_map.mp h
  have:=dg_le es es.length p
  omega
end My
namespace L2
open PySem PySem.Spec PyProof.Rows
theorem cf_app:∀(names:List (Str×NameKind))(n:Nat)(acc:List (Str×Addr)),cellsFrom n names acc=cellsFrom n names []++acc
 |[],_,_=>rfl
 |(x,k)::r,n,acc=>by
  unfold cellsFrom
  split
  ·rw[cf_app r (n+1) ((x,n)::acc),cf_app r (n+1) [(x,n)],List.append_assoc]
   rfl
  ·exact cf_app r n acc
theorem cf_mem:∀{names:List (Str×NameKind)}{n:Nat}{x:Str}{c:Addr},(x,c)∈cellsFrom n names []->(x,NameKind.cell)∈names/\n<=c
 |[],_,_,_,h=>by cases h
 |(y,k)::r,n,x,c,h=>by
  unfold cellsFrom at h
  split at h
  ·rename_i hk
   rw[cf_app]at h
   rcases List.mem_append.mp h with z|z
   ·have:=cf_mem z
    exact⟨.tail _ this.1,by omega⟩
   ·cases List.mem_singleton.mp z
    rw[show k=NameKind.cell from by simpa using hk]
    exact⟨.head _,Nat.le_refl _⟩
  ·exact⟨.tail _ (cf_mem h).1,(cf_mem h).2⟩
theorem lookup_app{α:Type}:∀{l m:List (Str×α)}{x:Str}{c:α},(l++m).lookup x=some c->l.lookup x=some c\/(l.lookup x=none/\m.lookup x=some c)
 |[],_,_,_,h=> .inr ⟨rfl,h⟩
 |(y,d)::r,m,x,c,h=>by
  rw[List.cons_append]at h
  cases hx:x==y with
  |true=>simp only[List.lookup_cons,hx]at h⊢;exact .inl h
  |false=>simp only[List.lookup_cons,hx]at h⊢;exact lookup_app h
theorem lookup_app_r{α:Type}:∀{l m:List (Str×α)}{x:Str}{c:α},l.lookup x=none->m.lookup x=some c->(l++m).lookup x=some c
 |[],_,_,_,_,h=>h
 |(y,d)::r,m,x,c,hn,h=>by
  rw[List.cons_append]
  cases hx:x==y with
  |true=>simp only[List.lookup_cons,hx]at hn;cases hn
  |false=>simp only[List.lookup_cons,hx]at hn⊢;exact lookup_app_r hn h
theorem relabel_back2{env:Env}:∀{names:List (Str×NameKind)}{x:Str},
  ((names.map fun(n,k)=>if(k==NameKind.free&&env.scope.kind== .function&&env.kindOf n==some .cell)then(n,NameKind.cell)else(n,k)).lookup x=some .cell\/
  (names.map fun(n,k)=>if(k==NameKind.free&&env.scope.kind== .function&&env.kindOf n==some .cell)then(n,NameKind.cell)else(n,k)).lookup x=some .free)->names.lookup x=some .free\/names.lookup x=some .cell
 |[],_,h=>by simp at h
 |(n,k)::r,x,h=>by
  have ih:=@relabel_back2 env r x
  simp only[List.map_cons]at h
  cases hx:x==n with
  |true=>
   by_cases hc:(k==NameKind.free&&env.scope.kind== .function&&env.kindOf n==some .cell)=true
   ·simp only[Bool.and_eq_true,beq_iff_eq]at hc
    simp only[List.lookup_cons,hx]
    rw[hc.1.1]
    exact .inl rfl
   ·rw[if_neg hc]at h
    simp only[List.lookup_cons,hx]at h⊢
    exact h.elim .inr .inl
  |false=>
   simp only[List.lookup_cons,hx]
   by_cases hc:(k==NameKind.free&&env.scope.kind== .function&&env.kindOf n==some .cell)=true
   ·rw[if_pos hc]at h;simp only[List.lookup_cons,hx]at h;exact ih h
   ·rw[if_neg hc]at h;simp only[List.lookup_cons,hx]at h;exact ih h
theorem newEnv_cells{M:Model}{A:Around}{E:Value->Shared->Prop}{s:Shared}{scope:Scope}{globals:Addr}{cl:List (Str×Addr)}{qual:Str}{env:Env}{Q:Env->Shared->Prop}
  (hQ:∀h':Heap,h'.Ns s.heap.objs.size (fun _=>none)->(∀b o,s.heap.get? b=some o->h'.get? b=some o)->CellsOk h' (s.heap.objs.size+1) (cellsFrom (s.heap.objs.size+1) scope.names [])->
   Q {scope,locals:=s.heap.objs.size,globals,cells:=cellsFrom (s.heap.objs.size+1) scope.names cl,qual,func:=none,code:=env.code,frame:=env.frame,builtins:=env.builtins} {s with heap:=h'}):
  wpAny M A (newFunctionEnv scope globals cl [] qual none .none (some env)) Q E s:=by
 simp only[newFunctionEnv,Option.isSome_some,if_true]
 refine wpAny_bind (wpAny_alloc ?_)
 refine wpAny_bind (wpAny_layCells _ (fun name kind cells=>by cases hkc:kind==NameKind.cell<;>simp[hkc]) _ _ _ _ ?_)
 have ok:=cellsFrom_ok scope.names (s.heap.push {cls:= .type "dict",data:= .dict #[]}) (s.heap.objs.size+1) [] ⟨fun _ _ hm=>(nomatch hm),List.Pairwise.nil⟩ (by rw[Heap.size_push];exact Nat.le_refl _)
 rw[Heap.size_push]at ok
 rw[show({s with heap:=s.heap.push {cls:= .type "dict",data:= .dict #[]}}:Shared).heap.objs.size=s.heap.objs.size+1 from Heap.size_push ..]
 rw[List.forIn_nil]
 exact wpAny_bind (wpAny_pure (wpAny_pure (hQ _ ((Heap.Ns.new s.heap (.type "dict")).keeps (pushCells_keeps _ _)) (fun b o e=>pushCells_keeps _ _ b o (Heap.get?_push_of_some _ e)) ok)))
def cxBlkC(X:Cx)(scope:Scope)(cl:List (Str×Addr))(C:Addr)(N:List Str)(fp:List Addr)(s:Shared)(H:Hp):Cx:=
 {X with N:=N,s₀:=s,H₀:=H,env:=compEnvC scope (cellsFrom (C+1) scope.names cl) C X.env,outer:=X.stack,ex:=fp,fn:=fun x=>decide (scope.names.lookup x=some .cell),pn:=[],xe:=fun _ _=>False}
structure BlkC(X:Cx)(scope:Scope)(cl:List (Str×Addr))(N:List Str)(bs:List (Option Nat)):Prop where
 clos:closureFor scope X.env=pure cl
 kind:scope.kind= .function
 cell:∀y∈scope.names,y.2= .cell->scope.names.lookup y.1=some .cell
 names:∀y∈scope.names,y.2= .local->scope.names.lookup y.1=some .local
 cl1:∀p∈cl,X.env.cells.lookup p.1=some p.2
 cl2:∀y∈scope.names,y.2= .free->(cl.lookup y.1).isSome=true
 bs:BsOk X.N X.env.scope.names scope.names N bs
section
variable{X:Cx}{scope:Scope}{cl:List (Str×Addr)}{N:List Str}{bs:List (Option Nat)}{pins:List (Addr×Obj)}{σ:St}{H:Hp}{s:Shared}{fp:List Addr}{C:Addr}
theorem BlkC.c1(B:BlkC X scope cl N bs){x:Str}{c:Addr}(h:cl.lookup x=some c):X.env.cells.lookup x=some c:=B.cl1 (x,c) (PySem.mem_of_lookup h)
theorem BlkC.either(B:BlkC X scope cl N bs){x:Str}{c:Addr}(h:(cellsFrom (C+1) scope.names cl).lookup x=some c):(C<c/\(x,c)∈cellsFrom (C+1) scope.names [])\/X.env.cells.lookup x=some c:=by
 rw[cf_app]at h
 rcases lookup_app h with z|⟨_,z⟩
 ·have m:=PySem.mem_of_lookup z
  exact .inl ⟨(cf_mem m).2,m⟩
 ·exact .inr (B.c1 z)
theorem BlkC.fr(B:BlkC X scope cl N bs){x:Str}{c:Addr}(hx:scope.names.lookup x=some .free)(h:cl.lookup x=some c):(cellsFrom (C+1) scope.names cl).lookup x=some c:=by
 rw[cf_app]
 refine lookup_app_r ?_ h
 cases q:(cellsFrom (C+1) scope.names []).lookup x with
 |none=>rfl
 |some c'=>
  have:=B.cell _ (cf_mem (PySem.mem_of_lookup q)).1 rfl
  rw[hx]at this
  cases this
theorem BlkC.c2(B:BlkC X scope cl N bs){x:Str}(h:(compEnvC scope (cellsFrom (C+1) scope.names cl) C X.env).kindOf x=some .cell\/(compEnvC scope (cellsFrom (C+1) scope.names cl) C X.env).kindOf x=some .free):∃c,(cellsFrom (C+1) scope.names cl).lookup x=some c:=by
 rcases relabel_back2 (env:=X.env) h with z|z
 ·obtain⟨c,e⟩:=Option.isSome_iff_exists.mp (B.cl2 (x,.free) (PySem.mem_of_lookup z) rfl)
  exact⟨c,B.fr z e⟩
 ·exact Option.isSome_iff_exists.mp (PySem.W.cellsFrom_some scope.names (C+1) cl (.inl z))
theorem BlkC.ok(B:BlkC X scope cl N bs)(I:Inv X pins σ H s)(hf:∀b∈fp,FpOk X pins H b) (ho:∀b∈fp,∃o,s.heap.get? b=some o/\∀v,o.data≠.cell v) (hC:s.heap.objs.size<=C) (ap:(cellsFrom (C+1) scope.names []).Pairwise fun x y=>x.2≠y.2):(cxBlkC X scope cl C N fp s H).Ok:=by
 have lo:∀x c,X.env.cells.lookup x=some c->c<s.heap.objs.size:=fun x c e=>by
  obtain⟨v,o,ho,_⟩:=I.cell x c e
  exact Heap.lt_size ho
 refine⟨I.ok.mod,B.kind,I.ok.glob,I.ok.blt,hC,fun x y c h1 h2=>?_,fun x h=>B.c2 h,fun x c h h2=>?_,I.ok.hd,I.ok.frames,.inl rfl,fun b hb=>?_,I.bs,Nat.le_trans I.ok.bsz I.sz,fun b o e hb=>?_,fun b hb hb'=>?_,I.stack,I.stkFree⟩
 ·rcases B.either h1 with⟨l1,m1⟩|e1<;>rcases B.either h2 with⟨l2,m2⟩|e2
  ·exact name_of_addr ap m1 m2
  ·exact absurd (Nat.lt_of_lt_of_le (lo _ _ e2) (Nat.le_trans hC (Nat.le_of_lt l1))) (Nat.lt_irrefl _)
  ·exact absurd (Nat.lt_of_lt_of_le (lo _ _ e1) (Nat.le_trans hC (Nat.le_of_lt l2))) (Nat.lt_irrefl _)
  ·exact I.ok.inj x y c e1 e2
 ·have hx:scope.names.lookup x=some .cell:=of_decide_eq_true h
  have h2':(cellsFrom (C+1) scope.names cl).lookup x=some c:=h2
  rw[cf_app]at h2'
  obtain⟨c',e⟩:=Option.isSome_iff_exists.mp (PySem.W.cellsFrom_some scope.names (C+1) [] (.inl hx))
  rcases lookup_app h2' with z|⟨z,_⟩
  ·have:=(cf_mem (PySem.mem_of_lookup z)).2
   show s.heap.objs.size<=c
   omega
  ·rw[z]at e;cases e
 ·obtain⟨o,e,_⟩:=ho b hb
  obtain⟨_,_,_,_,f4,_⟩:=hf b hb
  have hlt:=Heap.lt_size e
  refine⟨Nat.ne_of_lt (Nat.lt_of_lt_of_le hlt hC),fun x c h=>?_⟩
  rcases B.either h with⟨l,_⟩|e'
  ·exact fun z=>absurd (Nat.lt_of_lt_of_le hlt (Nat.le_trans hC (Nat.le_of_lt (z▸l)))) (Nat.lt_irrefl _)
  ·exact f4 x c e'
 ·obtain⟨_,_,_,f3,_⟩:=hf b hb
  rcases f3 with z|z
  ·exact I.ok.noex b o e z
  ·exact absurd (Nat.lt_of_lt_of_le (Heap.lt_size e) (Nat.le_trans I.ok.bsz z)) (Nat.lt_irrefl _)
 ·obtain⟨_,f1,f2,_⟩:=hf b hb
  rcases List.mem_cons.mp (I.stkSub b hb')with z|z
  ·exact f1 z
  ·exact f2 z
theorem BlkC.inv(B:BlkC X scope cl N bs)(I:Inv X pins σ H s)(hf:∀b∈fp,FpOk X pins H b) (ho:∀b∈fp,∃o,s.heap.get? b=some o/\∀v,o.data≠.cell v) (hC:s.heap.objs.size<=C) {h':Heap}
  (hk:∀b o,s.heap.get? b=some o->h'.get? b=some o) (cs:CellsOk h' (C+1) (cellsFrom (C+1) scope.names [])) {m:Str->Option Value} (hn:h'.Ns C m) {D:Addr} {oD:Obj} (hD:h'.get? D=some oD) (hD1:s.heap.objs.size<=D) (hDC:D≠C) (hDd:∀v,oD.data≠.cell v):
  Inv (cxBlkC X scope cl C N fp s H) [(D,oD)] (bst bs σ) H {s with heap:=h'}:=by
 have ok:(cxBlkC X scope cl C N fp s H).Ok:=B.ok I hf ho hC cs.apart
 refine⟨ok,rfl,I.bare,Un.kept hk,⟨m,hn,fun i x v e1 e2 e3=>?_⟩,fun x c h=>?_,I.hok.fresh hC,fun x c h=>?_,fun p hp=>?_,I.hok.kept hk,?_⟩
 ·have e2':(bst bs σ)[i]?=some (some v):=e2
  unfold bst at e2'
  rw[List.getElem?_map]at e2'
  cases q:bs[i]? with
  |none=>rw[q]at e2';cases e2'
  |some o=>
   rw[q]at e2'
   cases o with
   |none=>cases e2'
   |some j=>
    obtain⟨y,y1,y2,y3,y4⟩:=B.bs.get q
    have e1':N[i]?=some x:=e1
    rw[e1']at y1
    cases y1
    have e4:σ[j]?=some (some v):=by
     have z:(σ[j]?).join=some v:=Option.some.inj e2'
     cases w:σ[j]? with
     |none=>rw[w]at z;cases z
     |some o=>rw[w]at z;rw[show o=some v from z]
    obtain⟨mx,hmx,lx⟩:=I.loc
    obtain⟨u,r,l⟩:=lx j x v y2 e4 (.inr (.inl y3))
    refine⟨u,r,.inr ⟨relabel_free (env:=X.env) y4,?_⟩⟩
    rcases l with⟨l1,_⟩|⟨_,c,l2,l3⟩
    ·have l1':X.env.scope.names.lookup x=some .local:=l1
     rw[y3]at l1'
     cases l1'
    ·obtain⟨c',h'⟩:=Option.isSome_iff_exists.mp (B.cl2 (x,.free) (PySem.mem_of_lookup y4) rfl)
     have h2:=B.c1 h'
     rw[l2]at h2
     cases h2
     obtain⟨oc,hoc,hd⟩:=l3
     exact⟨c,B.fr y4 h',oc,hk _ _ hoc,hd⟩
 ·rcases B.either h with⟨_,mm⟩|e
  ·exact⟨none,(cs.empty x c mm).1⟩
  ·obtain⟨v,oc,hoc,hd⟩:=I.cell x c e
   exact⟨v,oc,hk _ _ hoc,hd⟩
 ·rcases B.either h with⟨l,_⟩|e
  ·exact I.hok.fresh (Nat.le_trans hC (Nat.le_of_lt l))
  ·exact I.freeC x c e
 ·have e:p=(D,oD):=by simpa[cxBlkC]using hp
  subst e
  refine⟨hD,I.hok.fresh hD1,hDC,fun z=>?_,hDd⟩
  have z':D∈frs X.stack:=z
  rcases List.mem_cons.mp (I.stkSub D z')with q|q
  ·exact Nat.lt_irrefl _ (Nat.lt_of_lt_of_le I.lt (by rw[<-q];exact hD1))
  ·exact I.nofs hD1 q
 ·show(bst bs σ).length=N.length
  unfold bst
  rw[List.length_map]
  exact B.bs.len
end
theorem pe_lcC{X:Cx}{scope:Scope}{cl:List (Str×Addr)}{N:List Str}{bs:List (Option Nat)}{tg iter elt:Expr}{ifs:List Expr}{pos:Pos}{wi:TI}{g:TG}{tt:TT}{te:TE}(B:BlkC X scope cl N bs)(hc:X.calm=true)
  (hi:PI X tg iter wi)(hg:∀C fp s H,PG (cxBlkC X scope cl C N fp s H) tg g) (ht:∀C fp s H,PTs (cxBlkC X scope cl C N fp s H) ifs tt) (he:∀C fp s H,PE (cxBlkC X scope cl C N fp s H) elt te)
  (hs:∀x,foldedSetIterable iter X.env x=pure x:=by intro _;rfl):
  PE X (.ListComp elt [⟨tg,iter,ifs,0⟩] scope pos) (tLC bs wi g tt te):=by
 intro pins s σ H Q I h
 rw[eval_ListComp]
 refine wpAny_comprehension_free (use:=none) rfl hs B.clos B.kind B.names (thn (hi pins s σ H _ I h) fun v s1 h1=>thn h1 fun itv s2 h2=>?_)
 obtain⟨it,fp,tn,J,H2,rfl,I2,T,st2,f2,W,⟨m0,w0⟩,turn⟩:=h2
 refine wpAny_newObj_type (newEnv_cells fun h₁ hns₁ hkp₁ hcs₁=>?_)
 dsimp only at hns₁ hkp₁ hcs₁⊢
 generalize hG:s2.heap.push {cls:= .type "list",dict:=none,data:= .seq ([]:List Value).toArray}=G at hns₁ hkp₁ hcs₁⊢
 have hC:G.objs.size=s2.heap.objs.size+1:=by rw[<-hG,Heap.size_push]
 have hDC:s2.heap.objs.size≠G.objs.size:=by rw[hC];exact Nat.ne_of_lt (Nat.lt_succ_self _)
 have hCle:s2.heap.objs.size<=G.objs.size:=by rw[hC];exact Nat.le_succ _
 have old:∀b o,s2.heap.get? b=some o->h₁.get? b=some o:=fun b o e=>hkp₁ b o (hG▸Heap.get?_push_of_some _ e)
 have hacc:h₁.get? s2.heap.objs.size=some {cls:= .type "list",data:= .seq ([]:List Value).toArray 0}:=hkp₁ _ _ (hG▸Heap.get?_push_size _ rfl)
 have stat:∀{D:Addr}{o:Obj}{H':Hp},s2.heap.objs.size<=D->(∀b∈fp,H' b=none)->∀b∈fp,FpOk (cxBlkC X scope cl G.objs.size N fp s2 H2) [(D,o)] H' b:=fun{D o H'} hD hn b hb=>by
  obtain⟨ob,eb,_⟩:=T.obj _ _ st2 b hb
  obtain⟨_,f1,f3,f4,f5,_⟩:=f2 b hb
  have ok:=B.ok I2 f2 (T.obj _ _ st2) (C:=G.objs.size) hCle hcs₁.apart
  refine⟨hn b hb,(ok.exf b hb).1,ok.exfs b hb,.inl hb,(ok.exf b hb).2,fun p hp=>?_⟩
  have e:p=(D,o):=by simpa[cxBlkC]using hp
  subst e
  exact Nat.ne_of_gt (Nat.lt_of_lt_of_le (Heap.lt_size eb) hD)
 have loop:∀s₃:Shared,s₃={s2 with heap:=h₁}->
   codeAny (model X.prog X.w) X.A (.compLoop (.ListComp elt [⟨tg,iter,ifs,0⟩] scope pos) 0 (.ref it) (.ref s2.heap.objs.size) (compEnvC scope (cellsFrom (G.objs.size+1) scope.names cl) G.objs.size X.env))
    (compPost (model X.prog X.w) X.A X.xe none (EP X pins σ Q) (.ref s2.heap.objs.size) G.objs.size) s₃:=by
  rintro s₃ rfl
  refine codeAny_compLoop_go (fun n s'=>∃i ys its k σ' H',Inv (cxBlkC X scope cl G.objs.size N fp s2 H2) [(s2.heap.objs.size,{cls:= .type "list",data:= .seq (List.toArray its) k})] σ' H' s'/\Vals ys its/\tn i s'.heap/\(∀b∈fp,H' b=none)/\W i n ys σ' H') ?_ m0
   ⟨0,[],[],0,bst bs σ,H2,B.inv I2 f2 (T.obj _ _ st2) hCle old hcs₁ hns₁ hacc (Nat.le_refl _) hDC (fun v z=>nomatch z),.nil,T.keep _ _ _ st2 fun b _ o e=>old b o e,fun b hb=>(f2 b hb).1,w0⟩
  rintro n s3 ⟨i,ys,its,k,σ3,H3,I3,rv,st3,fr3,w3⟩
  have pD:=I3.pin _ (List.mem_append_right _ (.head _))
  rcases turn i n ys σ3 H3 w3 with⟨stop,hz,qn⟩|⟨go,hz,NN,hNN,step⟩
  ·refine thn (T.done (cxBlkC X scope cl G.objs.size N fp s2 H2) rfl rfl rfl hc i _ s3 σ3 H3 (fun _ _=>False) I3 (stat (Nat.le_refl _) fr3) st3 stop) fun r s4⟨hr,I4⟩=>?_
   subst hr
   have pD4:=I4.pin _ (List.mem_append_right _ (.head _))
   obtain⟨m4,hn4,_⟩:=I4.loc
   refine⟨m4,hn4,fun h5 sb5=>?_⟩
   have hD5:h5.get? s2.heap.objs.size=some {cls:= .type "list",data:= .seq (List.toArray its) k}:=sb5.extBut _ _ hDC pD4.1
   have k5:∀b o,b≠G.objs.size->s4.heap.get? b=some o->h5.get? b=some o:=fun b o hb e=>sb5.extBut b o hb e
   have hC4:H3 G.objs.size=none:=I4.free
   have hok4:HOk X.prog X.w H3 s4.heap:=I4.hok
   have hok5:HOk X.prog X.w (upd H3 s2.heap.objs.size (.lst ys)) h5:=fun b u e=>by
    by_cases hb:b=s2.heap.objs.size
    ·subst hb
     rw[upd_same]at e
     cases e
     exact⟨hz,its,k,rv,hD5⟩
    ·rw[upd_ne hb]at e
     have nC:∀c u',H3 c=some u'->c≠G.objs.size:=fun c u' q z=>by rw[z,hC4]at q;cases q
     have nD:∀c u',H3 c=some u'->c≠s2.heap.objs.size:=fun c u' q z=>by rw[z,pD4.2.1]at q;cases q
     refine(hok4 b u e).stay (fun c v hc' q=>k5 c v ?_ q) (fun c q=>by rw[upd_ne (nD c _ q)];exact q) fun c xs q=>by rw[upd_ne (nD c _ q)];exact q
     rcases hc' with z|z
     ·rw[z];exact nC b u e
     ·exact nC c _ z
   have un4:Un (frs X.stack) fp H2 H3 s2.heap s4.heap:=I4.base
   have neC:∀b o,s2.heap.get? b=some o->b≠G.objs.size:=fun b o e=>Nat.ne_of_lt (Nat.lt_of_lt_of_le (Heap.lt_size e) hCle)
   have neD:∀b o,s2.heap.get? b=some o->b≠s2.heap.objs.size:=fun b o e=>Nat.ne_of_lt (Heap.lt_size e)
   have un5:Un (frs X.stack) fp H2 (upd H3 s2.heap.objs.size (.lst ys)) s2.heap h5:={
    keep:=fun b o e n hb hx=>k5 b o (neC b o e) (un4.keep b o e n hb hx)
    slot:=fun b o e n hb hx=>let⟨sl,q⟩:=un4.slot b o e n hb hx;⟨sl,k5 b _ (neC b o e) q⟩
    free:=fun b o e n hx=>by rw[upd_ne (neD b o e)];exact un4.free b o e n hx
    there:=fun b o e hx=>let⟨o',q⟩:=un4.there b o e hx;⟨o',k5 b _ (neC b o e) q⟩
    tups:=fun b xs e=>by rw[upd_ne (ne_of_none e (I2.hok.fresh (Nat.le_refl _)))];exact un4.tups b xs e
    frzs:=fun b o u e=>by rw[upd_ne (ne_of_none e (I2.hok.fresh (Nat.le_refl _)))];exact un4.frzs b o u e
    tbls:=fun b ps e=>by rw[upd_ne (ne_of_none e (I2.hok.fresh (Nat.le_refl _)))];exact un4.tbls b ps e}
   refine⟨.ref s2.heap.objs.size,_,I2.call' (s':={s4 with heap:=h5}) ((show s4.os=s2.os from I4.os)) un5 hok5 I4.bare (fun b hb=>?_),rfl,qn _ pD4.2.1⟩
   obtain⟨_,f1,f3,f4,f5,f6⟩:=f2 b hb
   exact⟨f4,f1,f5,f6⟩
  ·refine thn (T.item (cxBlkC X scope cl G.objs.size N fp s2 H2) rfl rfl rfl hc i _ s3 σ3 H3 (fun _ _=>False) I3 (stat (Nat.le_refl _) fr3) st3 go) fun r s4⟨u,hr,h4⟩=>?_
   subst hr
   refine thn h4 fun _ s5⟨x,H5,I5,r5,y5,st5,fr5⟩=>?_
   have I5':=I5.pinned (stat (Nat.le_refl _) fr5) (T.obj _ _ st5)
   refine thn (hg _ _ _ _ _ s5 σ3 H5 x u _ I5' r5 (step x H5 y5)) fun _ s6⟨σ6,H6,I6,q6⟩=>?_
   refine thn (ht _ _ _ _ _ s6 σ6 H6 _ I6 q6) fun ok s7⟨H7,I7,q7⟩=>?_
   have back:∀{σ8:St}{H8:Hp}{s8:Shared}{pl:List (Addr×Obj)},Inv (cxBlkC X scope cl G.objs.size N fp s2 H2) (pl++pinsAt fp s5.heap) σ8 H8 s8->tn (i+1) s8.heap/\∀b∈fp,H8 b=none:=fun{σ8 H8 s8 pl} I8=>
    ⟨T.keep _ _ _ st5 fun b hb o e=>(I8.pin (b,o) (List.mem_append_right _ (List.mem_append_right _ (mem_pinsAt hb e)))).1,fun b hb=>by
     obtain⟨o,e,d⟩:=T.obj _ _ st5 b hb
     exact(I8.pin (b,o) (List.mem_append_right _ (List.mem_append_right _ (mem_pinsAt hb e)))).2.1⟩
   cases ok with
   |false=>
    rw[if_neg Bool.false_ne_true]at q7⊢
    obtain⟨m',hm,w7⟩:=hNN _ _ _ q7
    exact⟨m',hm,i+1,ys,its,k,σ6,H7,I7.unpinned,rv,(back I7).1,(back I7).2,w7⟩
   |true=>
    rw[if_pos rfl]at q7⊢
    refine thn (he _ _ _ _ _ s7 σ6 H7 _ I7 q7) fun y s8⟨v8,H8,I8,r8,q8⟩=>?_
    obtain⟨m',hm,w8⟩:=hNN _ _ _ q8
    have pD8:=I8.pin _ (List.mem_append_right _ (List.mem_append_left _ (.head _)))
    have hl:=rv.length
    refine wpAny_list_append_plain ⟨k,pD8.1⟩ (fun h9 pl9 sb9=>?_) (by rw[List.size_toArray];omega)
    obtain⟨k9,e9⟩:=pl9
    have e9':h9.get? s2.heap.objs.size=some {cls:= .type "list",data:= .seq (List.toArray (its++[y])) k9}:=by rw[e9];simp
    have I8':Inv (cxBlkC X scope cl G.objs.size N fp s2 H2) (pinsAt fp s5.heap) σ6 H8 s8:=I8.pins_of fun p hp=>I8.pin p (List.mem_append_right _ (List.mem_append_right _ hp))
    have I9:Inv (cxBlkC X scope cl G.objs.size N fp s2 H2) (pinsAt fp s5.heap) σ6 H8 {s8 with heap:=h9}:=I8'.turned (it:=s2.heap.objs.size) (t':=s8.toks) (fun b o hb e=>sb9.extBut b o hb e) pD8.2.1 pD8.2.2.1 (.inr (Nat.le_refl _))
     (fun x c e z=>by
      obtain⟨vc,oc,hoc,hd⟩:=I8.cell x c e
      rw[z,pD8.1]at hoc
      cases hoc
      cases hd)
     fun p hp z=>by
      have hp':p∈pinsAt fp s5.heap:=by simpa[cxBlkC]using hp
      obtain⟨q1,q2⟩:=of_pinsAt hp'
      obtain⟨ob,eb,_⟩:=T.obj _ _ st2 p.1 q1
      exact Nat.lt_irrefl _ (by have:=Heap.lt_size eb;rw[z]at this;exact this)
    have hk9:∀b∈fp,∀o,s8.heap.get? b=some o->h9.get? b=some o:=fun b hb o e=>sb9.extBut b o (fun z=>by
     obtain⟨ob,eb,_⟩:=T.obj _ _ st2 b hb
     exact Nat.lt_irrefl _ (by have:=Heap.lt_size eb;rw[z]at this;exact this)) e
    refine⟨m',hm,i+1,ys++[v8],its++[y],k9,σ6,H8,I9.pins_of fun p hp=>?_,rv.append (.cons r8 .nil),T.keep _ _ _ (back I8).1 hk9,(back I8).2,w8⟩
    have e:p=(s2.heap.objs.size,{cls:= .type "list",data:= .seq (List.toArray (its++[y])) k9}):=by simpa using hp
    subst e
    exact⟨e9',pD8.2.1,pD8.2.2.1,pD8.2.2.2.1,fun v z=>nomatch z⟩
 exact codeAny_compStart_list (loop _ rfl) (T.self _ 0 _ _ _ (T.keep _ _ _ st2 fun b _ o e=>old b o e) (loop _ rfl))
theorem pe_lcRC{X:Cx}{scope:Scope}{cl:List (Str×Addr)}{N:List Str}{bs:List (Option Nat)}{tg a elt:Expr}{ifs:List Expr}{p pos' pos:Pos}{ta:TA}{g:TG}{tt:TT}{te:TE}(B:BlkC X scope cl N bs)(hc:X.calm=true)
  (hgl:Gl X "range")(hmr:X.mg "range"=none)(ha:PA X [a] ta)(hm:MonoA ta)(hpl:plainE a=true)(hg:∀C fp s H,PG (cxBlkC X scope cl C N fp s H) tg g) (ht:∀C fp s H,PTs (cxBlkC X scope cl C N fp s H) ifs tt) (he:∀C fp s H,PE (cxBlkC X scope cl C N fp s H) elt te)
  (hs:∀x,foldedSetIterable (.Call (.Name "range" p) [a] [] pos') X.env x=pure x:=by intro _;rfl):PE X (.ListComp elt [⟨tg,.Call (.Name "range" p) [a] [] pos',ifs,0⟩] scope pos) (tLCR bs ta g tt te):=by
 intro pins s σ H Q I h
 refine @pe_lcC X scope cl N bs tg _ elt ifs pos (iRng1 ta) g tt te B hc (@pi_range1 X tg a ta p pos' hgl hmr ha (star_cons hpl)) hg ht he hs pins s σ H Q I ?_
 refine hm σ H _ _ (fun vs H1 h=>?_) h
 obtain⟨n,e,hz,Pv,p0,pl,ps,pd⟩:=h
 refine⟨(n:Int),e,by omega,by omega,?_⟩
 rw[Int.toNat_natCast]
 exact lc_range (Q:=Q) Pv (leMil hz) p0 pl ps fun ys σ H hp p hpn=>pd ys σ H hp p _ (same_add hpn) upd_same
structure FunC(K:PySem.W.Frag)(x qual:Str)(st:Stmt)(f:Addr)(fd:FuncData)(c:Addr):Prop where
 ex:∃(oc:Value)(od:Option Addr)(kV doc pm:Value)(an:Option Addr)(ct:Value)(osl:Array (Option Value)),
  fd=PySem.W.fnOf x qual (defArgs st) (defBody st) (defScope st) .none kV doc pm an (.ref c) ct/\K.lookup f=some ⟨oc,od,.func fd,osl⟩/\PySem.W.codeIn K (.ref c) qual=true
section
variable{P:Program}{w:World}{K:PySem.W.Frag}{mg:Str->Option Value}{base:Heap}
theorem FunC.ok{x qual:Str}{st:Stmt}{f c:Addr}{fd:FuncData}{N ps:List Str}{k:Nat}{sp:Sp}(F:FunC K x qual st f fd c)(S:FnScope N ps (defScope st))(len:∀vs H Q E,sp vs H Q E->vs.length=ps.length)
  (hbody:∀(A:Around)(outer:List Env)(s:Shared)(H:Hp)(vs:List V)(Q:VK)(E:XK),Room k (A.deeper (envOfC qual (defScope st) s.heap.objs.size f (.ref c)))->sp vs H Q E->
   ∃t,PSs (cxOf CX0 P w K mg base N qual (defScope st) f (.ref c) A outer s H E).nox (defBody st) t/\t {nx:=fun _ H'=>Q .non H',rt:=Q} (start N vs) H):FnOk P w K mg base CX0 (k+1) f fd ps sp:=by
 obtain⟨oc,od,kV,doc,pm,an,ct,osl,rfl,lk,hcd⟩:=F.ex
 refine fn_of lk hcd S len fun A outer s H vs Q E hr hsp=>?_
 obtain⟨t,h,q⟩:=hbody A outer s H vs Q E hr hsp
 exact⟨t,h.nox,q⟩
end
theorem Gr.none{P:Addr}{pos:Pos}{qual:Str}{H H':Hp}(g:Gr P pos qual H H'){d:Addr}(h:H' d=Option.none):H d=Option.none:=by
 cases q:H d with
 |none=>rfl
 |some o=>
  by_cases hd:d=P
  ·subst hd
   rcases g.tab with t|⟨c',t,_⟩
   ·rw[h]at t;cases t
   ·rw[h]at t;cases t
  ·rw[g.keep d o q hd]at h;cases h
theorem Gr.new{P:Addr}{pos:Pos}{qual:Str}{H H':Hp}(g:Gr P pos qual H H'){d:Addr}{o:HO}(h:H' d=Option.none):Gr P pos qual H (upd H' d o):=g.same (same_new h)
theorem Gr.lst{P:Addr}{pos:Pos}{qual:Str}{H H':Hp}(g:Gr P pos qual H H'){d:Addr}{xs ys:List V}(h:H' d=some (.lst xs))(hn:H d=Option.none):Gr P pos qual H (upd H' d (.lst ys)):=by
 refine⟨fun b o e n=>by rw[upd_ne (ne_of_none e hn)];exact g.keep b o e n,?_⟩
 rcases g.tab with t|⟨c',t,u⟩
 ·exact .inl (by rw[upd_ne (ne_of t h fun z=>nomatch z)];exact t)
 ·exact .inr ⟨c',by rw[upd_ne (ne_of t h fun z=>nomatch z)];exact t,by rw[upd_ne (ne_of u h fun z=>nomatch z)];exact u⟩
def Tk(H H':Hp):Prop:=∀q xs,H q=some (.tup xs)->H' q=some (.tup xs)
theorem Tk.trans{H H1 H2:Hp}(a:Tk H H1)(b:Tk H1 H2):Tk H H2:=fun q xs e=>b q xs (a q xs e)
theorem Same.tk{H H':Hp}(s:Same H H'):Tk H H':=fun q xs e=>s q _ e
theorem Gr.tk{P:Addr}{pos:Pos}{qual:Str}{H H':Hp}(g:Gr P pos qual H H')(t:TabI P pos qual H):Tk H H':=fun q xs e=>g.keep q _ e fun z=>by
 subst z
 rcases t with t|⟨c',t,_⟩
 ·rw[e]at t;cases t
 ·rw[e]at t;cases t
end L2
namespace SetT
open PySem PySem.SetTable PySem.Spec PyProof.Rows
def ival:Value->Int
 | .int i _=>i
 |_=>0
def byT(w:World):Bool:=w.params.followText "set-order"
def SI(prog:Program)(w:World)(h:Heap)(a:Addr)(ks:List Int):Prop:=
 ∃o es ep t,h.get? a=some o/\o.ExactSet/\o.data= .set es ep t/\SetOk t es/\Mk t.mask/\es.size*5<t.mask*3/\t.plain=true/\t.led= !byT w/\ElemsOf (intKind prog w) es.toList/\(es.toList.map fun e=>ival e.2).Perm ks
variable{prog:Program}{w:World}{A:Around}{E:Value->Shared->Prop}{s:Shared}
theorem SI.at'{h h':Heap}{a:Addr}{ks:List Int}(x:SI prog w h a ks)(k:∀o,h.get? a=some o->h'.get? a=some o):SI prog w h' a ks:=let⟨o,es,ep,t,ho,r⟩:=x;⟨o,es,ep,t,k o ho,r⟩
end SetT
namespace L2
open PySem PySem.Spec PyProof.Rows
theorem ps_lcT{X:Cx}{scope:Scope}{cl:List (Str×Addr)}{N:List Str}{bs:List (Option Nat)}{tg iter elt:Expr}{ifs:List Expr}{pos spos px:Pos}{x:Str}{tl:TE}{g gt:TG}{tt:TT}{te:TE}(B:Blk X scope cl N bs)(hc:X.calm=true)
  (hl:PE X iter tl)(hm:MonoE tl)(hg:∀C fp s H,PG (cxBlk X scope cl C N fp s H) tg g) (ht:∀C fp s H,PTs (cxBlk X scope cl C N fp s H) ifs tt) (he:∀C fp s H,PE (cxBlk X scope cl C N fp s H) elt te)
  (hgt:PG X (.Name x px) gt) (hsw:swapsWith (.ListComp elt [⟨tg,iter,ifs,0⟩] scope pos) (some (.Name x px)) spos.line X.env=pure true)
  (hs:∀x,foldedSetIterable iter X.env x=pure x:=by intro _;rfl):PS X (.Assign [.Name x px] (.ListComp elt [⟨tg,iter,ifs,0⟩] scope pos) spos) (tAsg (tLCT X.K bs tl g tt te) gt):=by
 intro pins s σ H D I h
 refine @ps_lc X scope cl N bs tg iter elt ifs pos spos px x (iTup X.K tl) g gt tt te B hc (@pi_tup X _ _ _ hl) hg ht he hgt hsw hs pins s σ H D I ?_
 refine hm σ H _ _ (fun x H1 h=>?_) h
 obtain⟨a,xs,e,hS,hz,Pv,p0,pl,ps,pd⟩:=h
 exact⟨a,e,⟨xs,hS⟩,lc_tup (Q:=fun x H1=>gt x σ H1 D.nx) Pv (leMil hz) p0 pl ps fun ys σ H hp p hpn=>pd ys σ H hp p _ (same_add hpn) upd_same⟩
theorem ix_tupX{X:Cx}{K:PySem.W.Frag}(hK:X.K=K):IxR X (rIxT K):=by
 subst hK
 exact ix_tup
end L2
namespace L2
open PySem PySem.Spec PyProof.Rows PySem.SeqAt
section
variable{X:Cx}
theorem all_eq:∀(ns ms:List Int),((List.range (min ns.length ms.length)).all (fun j=>ns.getD j 0==ms.getD j 0)&&(ns.length==ms.length))=decide (ns=ms):=by
 intro ns ms
 rw[Bool.eq_iff_iff,Bool.and_eq_true,decide_eq_true_eq,List.all_eq_true]
 constructor
 ·rintro⟨h1,h2⟩
  have h2:=eq_of_beq h2
  refine List.ext_getElem h2 fun i a b=>?_
  have:=eq_of_beq (h1 i (List.mem_range.mpr (by omega)))
  rw[List.getD_eq_getElem?_getD,List.getD_eq_getElem?_getD,List.getElem?_eq_getElem a,List.getElem?_eq_getElem b]at this
  exact this
 ·rintro rfl
  exact⟨fun j _=>beq_self_eq_true _,beq_self_eq_true _⟩
theorem eq_tupI{pins:List (Addr×Obj)}{σ:St}{H:Hp}{s:Shared}(I:Inv X pins σ H s){A:Around}{a b:Addr}{ns ms:List Int}(hu:A.units+1<cLine)(ha:SqT X.K H a (ns.map V.int))(hb:SqT X.K H b (ms.map V.int)):EqAt A s (.ref a) (.ref b) (decide (ns=ms)):=by
 by_cases hab:a=b
 ·subst hab
  have e:=I.tuple_inj ha hb
  have e2:ns=ms:=(List.map_inj_right (fun x y z=>V.int.inj z)).mp e
  rw[decide_eq_true e2]
  exact EqAt.same _
 refine EqAt.of_refs hab ?_
 obtain⟨vs,rvs,pa,_⟩:=I.tuple ha
 obtain⟨ws,rws,pb,_⟩:=I.tuple hb
 have l1:=rvs.length
 have l2:=rws.length
 rw[List.length_map]at l1 l2
 have e:=RcAt.tuples (A:=A) (s:=s) (e:=fun j=>ns.getD j 0==ms.getD j 0) pa pb (by omega) (fun j h1 h2=>?_)
 ·rw[List.size_toArray,List.size_toArray,<-l1,<-l2,all_eq]at e
  exact e
 ·simp only[List.size_toArray]at h1 h2
  obtain⟨x1,e1,r1⟩:=rvs.get (i:=j) (x:= .int ns[j]) (by rw[List.getElem?_map,List.getElem?_eq_getElem (by omega)];rfl)
  obtain⟨y1,e2,r2⟩:=rws.get (i:=j) (x:= .int ms[j]) (by rw[List.getElem?_map,List.getElem?_eq_getElem (by omega)];rfl)
  have g1:vs[j]=x1:=by rw[List.getElem?_eq_getElem h1]at e1;exact Option.some.inj e1
  have g2:ws[j]=y1:=by rw[List.getElem?_eq_getElem h2]at e2;exact Option.some.inj e2
  obtain⟨t1,rfl⟩:=r1
  obtain⟨t2,rfl⟩:=r2
  have g:=EqAt.int_int (A:=A.in1) (s:=s) ns[j] t1 ms[j] t2
  simp only[List.getElem_toArray,g1,g2]
  rw[List.getD_eq_getElem?_getD,List.getD_eq_getElem?_getD,List.getElem?_eq_getElem (show j<ns.length by omega),List.getElem?_eq_getElem (show j<ms.length by omega)]
  exact g
theorem refs_ofT:∀{tr:List (Addr×List Int)}{us:List Value},Vals (tr.map fun t=>V.ref t.1) us->us=tr.map fun t=>Value.ref t.1
 |[],_,.nil=>rfl
 |t::tr,_,.cons h r=>by
  cases(show _=Value.ref t.1 from h)
  rw[refs_ofT r]
  rfl
end
end L2
set_option maxHeartbeats 1000000
namespace L2
open PySem PySem.Spec PyProof.Rows PySem.SeqAt
section
variable{X:Cx}
def rEqLE(K:PySem.W.Frag):R2:=fun x y H Q=>∃(p q:Addr)(xs:List V),x= .ref p/\y= .ref q/\SqL K H p xs/\SqL K H q []/\Q (.bl (xs.length==0)) H
theorem op_eqLE{k:Nat}(hr:Room k X.A):OpR X (compareOp .Eq) (rEqLE X.K):=by
 intro pins s σ H x y v u Q I rx ry h
 obtain⟨p,q,xs,rfl,rfl,ha,hb,hq⟩:=h
 cases(show v=Value.ref p from rx)
 cases(show u=Value.ref q from ry)
 have hun:=hr.un
 show wpAny _ _ (richCompare .Eq (.ref p) (.ref q)) _ _ s
 obtain⟨vs,rvs,pa,_⟩:=I.list ha
 obtain⟨ws,rws,pb,_⟩:=I.list hb
 have l1:=rvs.length
 have l2:=rws.length
 have l3:ws.length=0:=l2.symm
 cases xs with
 |nil=>
  have l4:vs.length=0:=l1.symm
  refine RcAt.lists (A:=X.A) (s:=s) (e:=fun _=>true) pa.isList pb.isList (by simp;omega) (by omega) (fun j h1 h2=>absurd h2 (by rw[List.size_toArray];omega)) _ _ _ _ ?_
  rw[all_true]
  exact⟨.bl _,H,I,rfl,hq⟩
 |cons x xs=>
  refine RcAt.lists_lengths (A:=X.A) (s:=s) pa.isList pb.isList (by
   rw[List.size_toArray,List.size_toArray,l3,<-l1]
   rfl) (by omega) _ _ _ _ ?_
  exact⟨.bl _,H,I,rfl,hq⟩
def rSam(K:PySem.W.Frag)(b:Bool):R2:=fun x y H Q=>∃(p q:Addr)(d:Nat),x= .ref p/\y= .ref q/\d<=150/\Sam K H d x y/\Q (.bl b) H
theorem sam_all{pins:List (Addr×Obj)}{σ:St}{H:Hp}{s:Shared}(I:Inv X pins σ H s){A:Around}{d:Nat}(hu:A.units+1+d<cLine){xs ys:List V}{vs ws:List Value}(rvs:Vals xs vs)(rws:Vals ys ws)(hl:xs.length=ys.length)
  (hk:∀(i:Nat) u v,xs[i]?=some u->ys[i]?=some v->Sam X.K H d u v) (j:Nat) (h1:j<vs.toArray.size) (h2:j<ws.toArray.size):EqAt A.in1 s vs.toArray[j] ws.toArray[j] true:=by
 have l1:=rvs.length
 have l2:=rws.length
 simp only[List.size_toArray]at h1 h2
 obtain⟨x1,e1,r1⟩:=rvs.get (List.getElem?_eq_getElem (l:=xs) (i:=j) (by omega))
 obtain⟨y1,e2,r2⟩:=rws.get (List.getElem?_eq_getElem (l:=ys) (i:=j) (by omega))
 have g1:vs[j]=x1:=by rw[List.getElem?_eq_getElem h1]at e1;exact Option.some.inj e1
 have g2:ws[j]=y1:=by rw[List.getElem?_eq_getElem h2]at e2;exact Option.some.inj e2
 have g:=sam_eq I d A.in1 _ _ x1 y1 (by show A.units+1+d<cLine;omega) (hk j _ _ (List.getElem?_eq_getElem (by omega)) (List.getElem?_eq_getElem (by omega))) r1 r2
 simp only[List.getElem_toArray,g1,g2]
 exact g
theorem op_eqS{k:Nat}(hr:Room k X.A):OpR X (compareOp .Eq) (rSam X.K true):=by
 intro pins s σ H x y v u Q I rx ry h
 obtain⟨p,q,d,rfl,rfl,hd,h,hq⟩:=h
 cases(show v=Value.ref p from rx)
 cases(show u=Value.ref q from ry)
 have hun:=hr.un
 show wpAny _ _ (richCompare .Eq (.ref p) (.ref q)) _ _ s
 cases d with
 |zero=>exact h.2.elim
 |succ d=>
  rcases h with⟨_,h⟩|⟨a,b,xs,ys,ea,eb,h,hl,hk⟩
  ·exact h.elim
  cases ea
  cases eb
  rcases h with⟨ha,hb⟩|⟨ha,hb⟩
  ·obtain⟨vs,rvs,pa,_⟩:=I.tuple ha
   obtain⟨ws,rws,pb,_⟩:=I.tuple hb
   have l1:=rvs.length
   have l2:=rws.length
   refine RcAt.tuples (A:=X.A) (s:=s) (e:=fun _=>true) pa pb (by omega) (sam_all I (by omega) rvs rws hl hk) _ _ _ _ ?_
   have e2:(vs.toArray.size==ws.toArray.size)=true:=by simp;omega
   rw[all_true,e2]
   exact⟨.bl _,H,I,rfl,hq⟩
  ·obtain⟨vs,rvs,pa,_⟩:=I.list ha
   obtain⟨ws,rws,pb,_⟩:=I.list hb
   have l1:=rvs.length
   have l2:=rws.length
   refine RcAt.lists (A:=X.A) (s:=s) (e:=fun _=>true) pa.isList pb.isList (by simp;omega) (by omega) (sam_all I (by omega) rvs rws hl hk) _ _ _ _ ?_
   rw[all_true]
   exact⟨.bl _,H,I,rfl,hq⟩
theorem op_neS{k:Nat}(hr:Room k X.A):OpR X (compareOp .NotEq) (rSam X.K false):=by
 intro pins s σ H x y v u Q I rx ry h
 obtain⟨p,q,d,rfl,rfl,hd,h,hq⟩:=h
 cases(show v=Value.ref p from rx)
 cases(show u=Value.ref q from ry)
 have hun:=hr.un
 show wpAny _ _ (richCompare .NotEq (.ref p) (.ref q)) _ _ s
 cases d with
 |zero=>exact h.2.elim
 |succ d=>
  rcases h with⟨_,h⟩|⟨a,b,xs,ys,ea,eb,h,hl,hk⟩
  ·exact h.elim
  cases ea
  cases eb
  rcases h with⟨ha,hb⟩|⟨ha,hb⟩
  ·obtain⟨vs,rvs,pa,_⟩:=I.tuple ha
   obtain⟨ws,rws,pb,_⟩:=I.tuple hb
   have l1:=rvs.length
   have l2:=rws.length
   refine RcNeAt.tuples (A:=X.A) (s:=s) (e:=fun _=>true) pa pb (by omega) (sam_all I (by omega) rvs rws hl hk) _ _ _ _ ?_
   have e2:(vs.toArray.size==ws.toArray.size)=true:=by simp;omega
   rw[all_true,e2]
   exact⟨.bl _,H,I,rfl,hq⟩
  ·obtain⟨vs,rvs,pa,_⟩:=I.list ha
   obtain⟨ws,rws,pb,_⟩:=I.list hb
   have l1:=rvs.length
   have l2:=rws.length
   refine RcNeAt.lists (A:=X.A) (s:=s) (e:=fun _=>true) pa.isList pb.isList (by simp;omega) (by omega) (sam_all I (by omega) rvs rws hl hk) _ _ _ _ ?_
   rw[all_true]
   exact⟨.bl _,H,I,rfl,hq⟩
theorem Sam.up{K:PySem.W.Frag}{H:Hp}:∀{d:Nat}{x y:V},Sam K H d x y->Sam K H (d+1) x y
 |0,x,y,h=> .inl h
 |d+1,x,y,h=>by
  rcases h with h|⟨a,b,xs,ys,ea,eb,h,hl,hk⟩
  ·exact .inl h
  ·exact .inr ⟨a,b,xs,ys,ea,eb,h,hl,fun i u v h1 h2=>(hk i u v h1 h2).up⟩
theorem Sam.mono{K:PySem.W.Frag}{H:Hp}{d e:Nat}{x y:V}(h:Sam K H d x y)(hde:d<=e):Sam K H e x y:=by
 obtain⟨n,rfl⟩:=Nat.exists_eq_add_of_le hde
 clear hde
 induction n with
 |zero=>exact h
 |succ n ih=>exact ih.up
theorem Sam.tup{K:PySem.W.Frag}{H:Hp}{d:Nat}{a b:Addr}{xs ys:List V}(ha:H a=some (.tup xs))(hb:H b=some (.tup ys))(hl:xs.length=ys.length)(hk:∀(i:Nat) u v,xs[i]?=some u->ys[i]?=some v->Sam K H d u v):Sam K H (d+1) (.ref a) (.ref b):=
 .inr ⟨a,b,xs,ys,rfl,rfl,.inl ⟨SqT.of ha,SqT.of hb⟩,hl,hk⟩
theorem Sam.atom{K:PySem.W.Frag}{H:Hp}{d:Nat}{x:V}(h:Atom x):Sam K H d x x:=by
 cases d with
 |zero=>exact⟨rfl,h⟩
 |succ d=>exact .inl ⟨rfl,h⟩
end
end L2
namespace L2
open PySem PySem.Spec PyProof.Rows
structure Mk0(K:PySem.W.Frag)(C:Addr):Prop where
 makes:PySem.W.makesIn K C=true
 init:PySem.W.findIn K (.ref C) "__init__"=some (some (.builtin "object.__init__"))
 kp:PySem.W.keepIn K (.ref C)=true
structure OwnC(K:PySem.W.Frag)(C:Addr):Prop where
 cl:Cls K C
 ha:PySem.W.findIn K (.ref C) "__class__"=some (some (.builtin "object.__class__"))
 hn:PySem.W.specialIn K (.builtin "object.__class__") "__get__"=some (some (.builtin "getset_descriptor.__get__"))
 htk:PySem.W.takesIn K (.builtin "object.__class__")=some true
 hm:PySem.W.mroIn K C (.type "object")=some true
theorem OwnC.ty{K:PySem.W.Frag}{H:Hp}{a C dx:Addr}{fs:List (Str×V)}(o:OwnC K C)(e:H a=some (.ins C dx fs)):TyOf K H (.ref a) (.ref C):= .ins e o.cl o.ha o.hn o.htk o.hm
section
variable{X:Cx}
def tNew(C:Addr):TE:=fun _ H Q=>∀x dx,H x=none->H dx=none->dx≠x->Q (.ref x) (upd (upd H dx (.own x)) x (.ins C dx []))
theorem pe_new{x:Str}{C:Addr}{p pos:Pos}(M:Mk0 X.K C)(hg:Gl X x)(hm:X.mg x=some (.ref C))(hdb:(x==("__debug__":Str))=false:=by decide):PE X (.Call (.Name x p) [] [] pos) (tNew C):=by
 intro pins s σ H Q I h
 refine wpAny_Call_Name_kw (ld_glob I hg hm ?_ hdb)
 refine PySem.W.callWith_K0 I.kIn M.kp ?_
 have hq:=h (s.heap.objs.size+1) s.heap.objs.size (I.hok.fresh (Nat.le_succ _)) (I.hok.fresh (Nat.le_refl _)) (Nat.ne_of_lt (Nat.lt_succ_self _))
 have I2:=Inv.made (C:=C) I
 have Y:=PySem.W.makes_of (M:=model X.prog X.w) I.kIn M.makes
 refine wpAny_call (make_map0 I.kIn M.makes M.init (fun self=>PySem.W.Looks.of_pure (PySem.W.oi_bind self)) ?_)
 have g1:((s.heap.push PySem.W.emptyDict).push (PySem.W.instObj C s.heap.objs.size)).get? (s.heap.objs.size+1)=some (PySem.W.instObj C s.heap.objs.size):=by
  have:=Heap.get?_push_size (s.heap.push PySem.W.emptyDict) (o:=PySem.W.instObj C s.heap.objs.size) rfl
  rwa [Heap.size_push]at this
 have t1:PySem.W.Looks (model X.prog X.w) ((s.heap.push PySem.W.emptyDict).push (PySem.W.instObj C s.heap.objs.size)) (typeOf (.ref (s.heap.objs.size+1))) (.ref C):=(PySem.W.Looks.ld g1).andThen .now
 have t2:PySem.W.Looks (model X.prog X.w) ((s.heap.push PySem.W.emptyDict).push (PySem.W.instObj C s.heap.objs.size)) (isInstance (.ref (s.heap.objs.size+1)) (.type "object")) true:=t1.andThen (Y.top.keeps fun b o e=>Heap.get?_push_of_some _ (Heap.get?_push_of_some _ e))
 refine codeAny_call_builtin PySem.W.oi_plain PySem.W.entry_oi (@PySem.W.check_slot (model X.prog X.w) _ _ _ "object.__init__" "object" "__init__" (.ref (s.heap.objs.size+1)) [] [] _ PySem.W.oi_kind PySem.W.oi_split t2 (PySem.W.oi_args (.ref (s.heap.objs.size+1))) ?_)
 rw[PySem.W.oi_run]
 exact wpAny_pure (And.intro rfl ⟨.ref (s.heap.objs.size+1),_,I2,rfl,hq⟩)
theorem refs_of:∀{cs:List Addr}{us:List Value},Vals (cs.map V.ref) us->us=cs.map Value.ref
 |[],_,.nil=>rfl
 |c::cs,_,.cons h t=>by
  rw[refs_of t]
  cases(show _=Value.ref c from h)
  rfl
end
end L2
namespace RX
open PySem PySem.Spec PyProof.Rows
def TrD(h base:Heap)(e:Addr)(cls:Value)(od:Option Addr)(fl:Value):Prop:=
 ∃oe vs T oT ts,h.get? e=some oe/\(oe.cls=cls/\oe.dict=od)/\oe.data= .fields vs/\vs[1]?=some (.ref T)/\base.get? T=none/\T≠e/\h.get? T=some oT/\oT.data= .fields ts/\ts[3]?=some fl
structure Fl(base:Heap)(l:List Env)(e:Addr)(cls:Value)(od:Option Addr)(fl:Value)(h:Heap):Prop where
 stays:base.StaysIn h
 new:base.get? e=none
 frames:h.FunFrames base l
 trace:TrD h base e cls od fl
theorem dict_mapFields(f:Array Value->Array Value)(o:Obj):(o.mapFields f).dict=o.dict:=by
 unfold Obj.mapFields
 split<;>rfl
section
variable{M:Model}{A:Around}{E:Value->Shared->Prop}{s:Shared}{base:Heap}{env:Env}{outer l:List Env}{L e:Addr}{cls fl:Value}{od:Option Addr}{Q:Unit->Shared->Prop}
theorem entry_at{oe:Obj}{vs:Array Value}{head:Value}{hadNext:Bool}
  (hfr:A.frames=some (env::outer))(hl:s.heap.FunFrames base (env::outer))(hf:env.frame=some L)
  (he:s.heap.get? e=some oe)(hkb:base.StaysIn s.heap)(hen:base.get? e=none)(hd:oe.data= .fields vs)(hsz:1<vs.size)
  (h:∀h',Fl base (env::outer) e oe.cls oe.dict (rawInt L) h'->s.heap.UpToSlots h'->Q () {s with heap:=h'}):
  wpAny M A (do let a<-frameOf env;let pl<-entryPlaceOf L hadNext;let b<-EntryCells.newEntry head a .none (rawInt L) .none pl;setField (.ref e) 1 b) Q E s:=by
 have out:e ∉ (env::outer).filterMap (·.frame):=fun hm=>by
  obtain⟨_,o,ho,hnf⟩:=hl.mem hm
  rw[he]at ho;injection ho with ho;subst ho;exact hnf vs hd
 refine wpAny_bind (wpAny_frameOf_fun hfr hl hf fun h₁ hs₁=>?_)
 refine wpAny_bind (wpAny_entryPlaceOf fun pl hpl=>?_)
 unfold EntryCells.newEntry newFields
 refine wpAny_bind (wpAny_newObj_type ?_ (hpl.sizeOk5 _ _ _ _ _))
 have he₁:h₁.get? e=some oe:=(hs₁.2.1 e out).trans he
 have kb₁:base.StaysIn h₁:=fun b o hbo=>(hs₁.2.1 b fun hm=>by rw[(hl.mem hm).1]at hbo;cases hbo).trans (hkb b o hbo)
 generalize hot:({cls:= .type "traceback",dict:=none,data:= .fields ([head,.ref L,.none,rawInt L,.none]++(if pl.isEmpty then List.replicate 6 Value.none else pl)).toArray}:Obj)=ot
 have hotd:ot.data= .fields ([head,.ref L,.none,rawInt L,.none]++(if pl.isEmpty then List.replicate 6 Value.none else pl)).toArray:=by rw[<-hot]
 have hotf:ot.isFreed=false:=by rw[<-hot];rfl
 have he₂:=Heap.get?_push_of_some (h:=h₁) ot he₁
 refine wpAny_setField he₂ hd hsz ?_
 have hTe:h₁.objs.size≠e:=Nat.ne_of_gt (Heap.lt_size he₁)
 have hd₃:=Obj.data_mapFields hd (·.setIfInBounds 1 (Value.ref h₁.objs.size))
 have he₃:=Heap.get?_update_self (Obj.mapFields (·.setIfInBounds 1 (Value.ref h₁.objs.size))) he₂ (Obj.isFreed_of_fields hd₃)
 have hT₃:=(Heap.get?_update_other (h₁.push ot) (Obj.mapFields (·.setIfInBounds 1 (Value.ref h₁.objs.size))) (Ne.symm hTe)).trans (Heap.get?_push_size h₁ hotf)
 have keep:∀b o,b≠e->h₁.get? b=some o->((h₁.push ot).update e (Obj.mapFields (·.setIfInBounds 1 (Value.ref h₁.objs.size)))).get? b=some o:=fun b o hbe hb=>by
  rw[Heap.get?_update_other _ _ (Ne.symm hbe)]
  exact Heap.get?_push_of_some _ hb
 have notE:∀b o,s.heap.get? b=some o->(∀vs,o.data≠.fields vs)->b≠e:=fun b o hb hnf q=>by
  rw[q,he]at hb;injection hb with hb;subst hb;exact hnf vs hd
 refine h _ ⟨fun b o hbo=>keep b o (fun q=>by rw[q,hen]at hbo;cases hbo) (kb₁ b o hbo),hen,hl.of_keeps fun b o hb hnf=>?_,?_⟩ fun b o hb hnf=>?_
 ·obtain⟨sl,hs⟩:=hs₁.2.2 b o hb
  exact⟨_,keep b _ (notE b o hb hnf) hs,rfl⟩
 ·exact⟨_,_,h₁.objs.size,_,_,he₃,⟨Obj.cls_mapFields _ _,dict_mapFields _ _⟩,hd₃,by simp[hsz],kb₁.fresh,hTe,hT₃,hotd,by first|(simp;done)|(rcases hpl with rfl|⟨_,_,_,_,_,_,_,rfl⟩<;>simp)⟩
 ·obtain⟨sl,hs⟩:=hs₁.2.2 b o hb
  exact⟨sl,keep b _ (notE b o hb hnf) hs⟩
theorem note_first{oe:Obj}{vs:Array Value}(hfr:A.frames=some (env::outer))(hl:s.heap.FunFrames base (env::outer))(hf:env.frame=some L)
  (he:s.heap.get? e=some oe)(hkb:base.StaysIn s.heap)(hen:base.get? e=none)(hd:oe.data= .fields vs)(h1:vs[1]?=some .none)
  (h:∀h',Fl base (env::outer) e oe.cls oe.dict (rawInt L) h'->s.heap.UpToSlots h'->Q () {s with heap:=h'}):wpAny M A (noteFrame (.ref e) env) Q E s:=by
 unfold noteFrame
 simp only[hf]
 refine wpAny_bind (wpAny_field he hd h1 ?_)
 rw[if_neg (by decide)]
 exact entry_at hfr hl hf he hkb hen hd (Array.getElem?_eq_some_iff.mp h1).1 h
theorem note_on(hfr:A.frames=some (env::outer))(hf:env.frame=some L)(x:Fl base (env::outer) e cls od .none s.heap)
  (h:∀h',Fl base (env::outer) e cls od (rawInt L) h'->s.heap.UpToSlots h'->Q () {s with heap:=h'}):wpAny M A (noteFrame (.ref e) env) Q E s:=by
 obtain⟨hkb,hen,hl,oe,vs,T,oT,ts,he,⟨hc,hdd⟩,hd,h1,hnT,hTe,hT,hdT,h3⟩:=x
 subst hc hdd
 unfold noteFrame
 simp only[hf]
 refine wpAny_bind (wpAny_field he hd h1 ?_)
 rw[if_pos (show(Value.ref T !=Value.none)=true from by simp)]
 refine wpAny_bind (wpAny_field hT hdT h3 ?_)
 rw[if_neg (show¬((Value.none==rawInt L)=true)from by simp[rawInt])]
 refine wpAny_bind (wpAny_setField hT hdT (Array.getElem?_eq_some_iff.mp h3).1 ?_)
 have other:∀b,b≠T->(s.heap.update T (Obj.mapFields (·.setIfInBounds 3 Value.none))).get? b=s.heap.get? b:=fun b hb=>Heap.get?_update_other _ _ (Ne.symm hb)
 have notT:∀b o,s.heap.get? b=some o->(∀vs,o.data≠.fields vs)->b≠T:=fun b o hb hnf q=>by
  rw[q,hT]at hb;injection hb with hb;subst hb;exact hnf ts hdT
 refine entry_at hfr (hl.of_keeps fun b o hb hnf=>⟨o,(other b (notT b o hb hnf)).trans hb,rfl⟩) hf ((other e (Ne.symm hTe)).trans he)
  (fun b o hbo=>(other b fun q=>by rw[q,hnT]at hbo;cases hbo).trans (hkb b o hbo)) hen hd (Array.getElem?_eq_some_iff.mp h1).1
  fun h' x1 x2=>h h' x1 fun b o hb hnf=>x2 b o ((other b (notT b o hb hnf)).trans hb) hnf
theorem flight_off(x:Fl base l e cls od fl s.heap)
  (h:∀h',Fl base l e cls od .none h'->s.heap.UpToSlots h'->Q () {s with heap:=h'}):wpAny M A (setFlight (.ref e) none) Q E s:=by
 obtain⟨hkb,hen,hl,oe,vs,T,oT,ts,he,hcd,hd,h1,hnT,hTe,hT,hdT,h3⟩:=x
 have hsz3:3<ts.size:=(Array.getElem?_eq_some_iff.mp h3).1
 have other:∀b,b≠T->(s.heap.update T (Obj.mapFields (·.setIfInBounds 3 ((none:Option Addr).elim Value.none fun f=>rawInt f)))).get? b=s.heap.get? b:=
  fun b hb=>Heap.get?_update_other _ _ (Ne.symm hb)
 have notT:∀b o,s.heap.get? b=some o->(∀vs,o.data≠.fields vs)->b≠T:=fun b o hb hnf q=>by
  rw[q,hT]at hb;injection hb with hb;subst hb;exact hnf ts hdT
 unfold setFlight
 refine wpAny_bind (wpAny_field he hd h1 ?_)
 rw[if_pos (show(Value.ref T !=Value.none)=true from by simp)]
 refine wpAny_setField hT hdT hsz3 (h _ ⟨fun b o hbo=>(other b fun q=>by rw[q,hnT]at hbo;cases hbo).trans (hkb b o hbo),hen,
  hl.of_keeps fun b o hb hnf=>⟨o,(other b (notT b o hb hnf)).trans hb,rfl⟩,?_⟩ fun b o hb hnf=>⟨o.slots,(other b (notT b o hb hnf)).trans hb⟩)
 exact⟨oe,vs,T,_,_,(other e (Ne.symm hTe)).trans he,hcd,hd,h1,hnT,hTe,Heap.get?_update_self _ hT (Obj.isFreed_of_fields (Obj.data_mapFields hdT _)),Obj.data_mapFields hdT _,by simp[hsz3]⟩
theorem Fl.tail(x:Fl base (env::outer) e cls od fl s.heap):Fl base outer e cls od fl s.heap:=
 let⟨k1,k2,⟨_,_,k3⟩,k4⟩:=x
 ⟨k1,k2,k3,k4⟩
theorem leave_first{oe:Obj}{vs:Array Value}(hfr:A.frames=some (env::outer))(hl:s.heap.FunFrames base (env::outer))(hf:env.frame=some L)
  (he:s.heap.get? e=some oe)(hkb:base.StaysIn s.heap)(hen:base.get? e=none)(hd:oe.data= .fields vs)(h1:vs[1]?=some .none)
  (h:∀h',Fl base outer e oe.cls oe.dict .none h'->s.heap.UpToSlots h'->Q () {s with heap:=h'}):wpAny M A (leaving env (.ref e)) Q E s:=by
 unfold leaving
 refine wpAny_bind (note_first hfr hl hf he hkb hen hd h1 fun h₁ x₁ u₁=>?_)
 refine flight_off (s:={s with heap:=h₁}) x₁ fun h₂ x₂ u₂=>h h₂ (Fl.tail (s:={s with heap:=h₂}) x₂) (u₁.trans u₂)
theorem leave_on(hfr:A.frames=some (env::outer))(hf:env.frame=some L)(x:Fl base (env::outer) e cls od .none s.heap)
  (h:∀h',Fl base outer e cls od .none h'->s.heap.UpToSlots h'->Q () {s with heap:=h'}):wpAny M A (leaving env (.ref e)) Q E s:=by
 unfold leaving
 refine wpAny_bind (note_on hfr hf x fun h₁ x₁ u₁=>?_)
 refine flight_off (s:={s with heap:=h₁}) x₁ fun h₂ x₂ u₂=>h h₂ (Fl.tail (s:={s with heap:=h₂}) x₂) (u₁.trans u₂)
end
end RX
namespace RX
open PySem PySem.Spec PyProof.Rows L2
def CXe(P:Program)(w:World):CXT:=fun outer H s E ev s'=>
 ∃e cls od H' B,ev= .ref e/\s'.os=s.os/\AllBare s'.gens/\Un (frs outer) [] H H' s.heap s'.heap/\HOk P w H' s'.heap/\Fl B outer e cls od .none s'.heap/\
  (∀b o,s.heap.get? b=some o->b ∉ frs outer->∃o',B.get? b=some o')/\(∀b u,H' b=some u->∃o,B.get? b=some o)/\E cls od H'
theorem same_of_stays{B h:Heap}{b:Addr}{o o':Obj}(k:B.StaysIn h)(e:B.get? b=some o')(q:h.get? b=some o):B.get? b=some o:=by
 have:=k b o' e
 rw[q]at this;cases this;exact e
theorem hok_stays{P:Program}{w:World}{H:Hp}{B h h':Heap}(x:HOk P w H h)(k:∀b u,H b=some u->∃o,B.get? b=some o) (s1:B.StaysIn h) (s2:B.StaysIn h'):HOk P w H h':=fun a u e=>by
 refine(x a u e).stay (fun b v hb q=>?_) (fun _ q=>q) fun _ _ q=>q
 have go:∀z,H b=some z->h'.get? b=some v:=fun z r=>by
  obtain⟨o,ho⟩:=k b z r
  exact s2 b v (same_of_stays s1 ho q)
 rcases hb with rfl|hb
 ·exact go u e
 ·exact go _ hb
section
variable{X:Cx}{pins:List (Addr×Obj)}{σ:L2.St}{H:Hp}{s s':Shared}{E E':XK}{ev:Value}{M:Model}{EE:Value->Shared->Prop}
theorem mem_stack(hst:X.stack=X.env::X.outer)(hf:X.env.frame=some X.env.locals){b:Addr}(h:b∈frs X.stack):b=X.env.locals\/b∈frs X.outer:=by
 rw[hst]at h
 unfold frs at h
 rw[List.filterMap_cons,hf]at h
 exact List.mem_cons.mp h
theorem mem_stack_of(hst:X.stack=X.env::X.outer){b:Addr}(h:b∈frs X.outer):b∈frs X.stack:=by
 rw[hst]
 unfold frs at h⊢
 rw[List.filterMap_cons]
 split
 ·exact h
 ·exact List.mem_cons_of_mem _ h
theorem pass_on(hst:X.stack=X.env::X.outer)(hf:X.env.frame=some X.env.locals)(hex:X.ex=[])(I:Inv X pins σ H s)(x:CXe X.prog X.w X.stack H s E ev s')
  (hE:∀c d H',E c d H'->E' c d H'):wpAny M X.A (leaving X.env ev) (fun _ s''=>CXe X.prog X.w X.outer X.H₀ X.s₀ E' ev s'') EE s':=by
 obtain⟨e,cls,od,H',B,rfl,os,bare,un,hok,fl,k1,k2,q⟩:=x
 have noA:∀b:Addr,b ∉ X.ex:=fun b z=>by rw[hex]at z;cases z
 have fl':Fl B (X.env::X.outer) e cls od .none s'.heap:=by rw[<-hst];exact fl
 refine leave_on (by rw[<-hst];exact I.ok.frames) hf fl' fun h' f u=>⟨e,cls,od,H',B,rfl,os.trans I.os,bare,?_,hok_stays hok k2 fl.stays f.stays,f,?_,k2,hE _ _ _ q⟩
 ·have nL:∀b o,X.s₀.heap.get? b=some o->b≠X.env.locals:=fun b o e=>Nat.ne_of_lt (Nat.lt_of_lt_of_le (Heap.lt_size e) I.ok.above)
  have out:∀b o,X.s₀.heap.get? b=some o->b ∉ frs X.outer->b ∉ frs X.stack:=fun b o e n z=>(mem_stack hst hf z).elim (nL b o e) n
  have slot:∀b o,X.s₀.heap.get? b=some o->X.H₀ b=none->b∈frs X.outer->∃sl,h'.get? b=some {o with slots:=sl}:=fun b o e n hb=>by
   obtain⟨sl,e1⟩:=I.base.slot b o e n hb (noA b)
   obtain⟨sl2,e2⟩:=un.slot b _ e1 (I.base.free b o e n (noA b)) (mem_stack_of hst hb) (by simp)
   obtain⟨_,o3,ho3,hnf⟩:=fl.frames.mem (mem_stack_of hst hb)
   rw[e2]at ho3;cases ho3
   obtain⟨sl3,e3⟩:=u b _ e2 hnf
   exact⟨sl3,e3⟩
  have keep:∀b o,X.s₀.heap.get? b=some o->X.H₀ b=none->b ∉ frs X.outer->h'.get? b=some o:=fun b o e n hb=>by
   have e1:=I.base.keep b o e n hb (noA b)
   have e2:=un.keep b o e1 (I.base.free b o e n (noA b)) (out b o e hb) (by simp)
   obtain⟨o',h3⟩:=k1 b o e1 (out b o e hb)
   exact f.stays b o (same_of_stays fl.stays h3 e2)
  refine⟨fun b o e n hb _=>keep b o e n hb,fun b o e n hb _=>slot b o e n hb,fun b o e n _=>?_,fun b o e _=>?_,fun b xs e=>un.tups b xs (I.base.tups b xs e),fun b o xs e=>un.frzs b o xs (I.base.frzs b o xs e),fun b ps e=>?_⟩
  ·obtain⟨o',e1⟩:=I.base.there b o e (noA b)
   exact un.free b o' e1 (I.base.free b o e n (noA b)) (by simp)
  ·by_cases hb:b∈frs X.outer
   ·obtain⟨sl,z⟩:=slot b o e (I.ok.frf b hb) hb
    exact⟨_,z⟩
   ·obtain⟨o',e1⟩:=I.base.there b o e (noA b)
    obtain⟨o2,h2⟩:=k1 b o' e1 (out b o e hb)
    exact⟨o2,f.stays b o2 h2⟩
  ·obtain⟨m1,e1⟩:=I.base.tbls b ps e
   obtain⟨m2,e2⟩:=un.tbls b _ e1
   exact⟨m1++m2,by rw[e2,Array.append_assoc]⟩
 ·intro b o e hb
  obtain⟨o',e1⟩:=I.base.there b o e (noA b)
  exact k1 b o' e1 fun z=>(mem_stack hst hf z).elim (Nat.ne_of_lt (Nat.lt_of_lt_of_le (Heap.lt_size e) I.ok.above)) hb
end
theorem passX{P:Program}{w:World}{K:PySem.W.Frag}{mg:Str->Option Value}{base:Heap}{N:List Str}{qual:Str}{scope:Scope}{f:Addr}{cd:Value}{A:Around}{outer:List Env}{s:Shared}{H:Hp}{E E':XK}
  (hE:∀c d H',E' c d H'->E c d H'):Passes (CXe P w) (cxOf (CXe P w) P w K mg base N qual scope f cd A outer s H E) E':=
 fun _ _ _ _ _ _ I x=>pass_on (X:=cxOf (CXe P w) P w K mg base N qual scope f cd A outer s H E) rfl rfl rfl I x hE
end RX
namespace RX
open PySem PySem.Spec PyProof.Rows L2 PySem.W
open Builtin Builtin.ObjectAttr
abbrev veMro:List Value:=[.type "ValueError",.type "Exception",.type "BaseException",.type "object"]
def strKey(e:DictEntry):Bool:=match e.key with| .str _ _=>true|_=>false
def xcIn(K:Frag)(C D:Addr):Bool:=match K.lookup C,K.lookup D with
 |some ⟨c,_,.cls cd,sl⟩,some ⟨_,_,.cls dd,_⟩=>c== .type "type"&&cd.mro== .ref C:: .ref D::veMro&& !cd.hasDel&&cd.hasDict&&sl.toList.length==6&&(sl.toList[4]?).join==some (.builtin "ValueError.__new__")&&
   (match K.lookup dd.ns with|some ⟨_,_,.dict es _,_⟩=>es.toList.all strKey&&(nsFind es "__init__").isNone|_=>false)
 |_,_=>false
theorem strKeys_of{es:Array DictEntry}(h:es.toList.all strKey=true):StrKeys es:=by
 intro e he
 have q:strKey e=true:=List.all_eq_true.mp h e (by simpa using he)
 unfold strKey at q
 split at q
 ·rename_i n t hk;exact⟨n,t,hk⟩
 ·cases q
def ClsAt(h:Heap)(C D:Addr):Prop:=OwnTail h veMro (.ref D::veMro)/\∃nm q N bs sn sub ab col dd k0 k1 k2 k3 k5,h.get? C=some (excClassObj nm q C N bs (.ref D::veMro) true sn sub ab col dd k0 k1 k2 k3 k5 "ValueError.__new__")
theorem clsAt_of{K:Frag}{h:Heap}{C D:Addr}(X:K.In h)(e:xcIn K C D=true):ClsAt h C D:=by
 unfold xcIn at e
 split at e
 ·rename_i c dd cd sl c2 d2 dd2 sl2 hC hD
  simp only[Bool.and_eq_true,Bool.not_eq_true',beq_iff_eq]at e
  obtain⟨⟨⟨⟨⟨⟨e1,e2⟩,e3⟩,e4⟩,e5⟩,e6⟩,e7⟩:=e
  split at e7
  ·rename_i c3 d3 es n3 sl3 hN
   rw[Bool.and_eq_true]at e7
   refine⟨.own (X _ _ hD) ⟨_,es,n3,X _ _ hN,rfl,strKeys_of e7.1,fun _=>rfl⟩ (by simpa using e7.2) .base,?_⟩
   obtain⟨nm,bs,mro,ns,qn,hd,sn,sub,ab,col,hdel⟩:=cd
   dsimp only at e2 e3 e4
   subst e1 e2 e3 e4
   obtain⟨l⟩:=sl
   match l,e5,e6 with
   |[k0,k1,k2,k3,k4,k5],_,e6=>
    have e6':k4=some (.builtin "ValueError.__new__"):=by simpa using e6
    subst e6'
    exact⟨_,_,_,_,_,_,_,_,_,_,_,_,_,_,X _ _ hC⟩
  ·cases e7
 ·cases e
theorem ClsAt.keeps{h h':Heap}{C D:Addr}(x:ClsAt h C D)(k:∀b o,h.get? b=some o->h'.get? b=some o):ClsAt h' C D:=by
 obtain⟨T,nm,q,N,bs,sn,sub,ab,col,dd,k0,k1,k2,k3,k5,hC⟩:=x
 exact⟨T.keeps k,_,_,_,_,_,_,_,_,_,_,_,_,_,_,k _ _ hC⟩
section
variable{prog:Program}{w:World}{A:Around}{E:Value->Shared->Prop}{h:Heap}{g:Array GenState}{d:Drawn}{t:Nat}{os:OsState}{C D:Addr}
abbrev rawArgs(rest:List Value):Obj:={cls:= .type "tuple",data:= .seq rest.toArray}
abbrev rawF(t:Addr):Array Value:=#[.ref t,.none,.none,.none,.bool false,.none]
abbrev rawX(C t:Addr):Obj:={cls:= .ref C,data:= .fields (rawF t)}
theorem type_call_init{rest:List Value}{fI:Addr}{Q:Fin->Shared->Prop}(hc:ClsAt h C D)(hi:Looks (model prog w) h (typeLookup (.ref C) "__init__") (some (.ref fI)))
  (hb:∀self,Looks (model prog w) h (bindSpecial (.ref fI) self) (.ref fI,[self]))
  (hq:wpAny (model prog w) A (call (.ref fI) (.ref (h.objs.size+1)::rest)) (fun r s'=>r= .none/\Q (.done (.ret (.ref (h.objs.size+1)))) s') E
   ⟨(h.push (rawArgs rest)).push (rawX C h.objs.size),g,d,t,os⟩) (hrest:rest.length<=sizeLine):
  wpAny (model prog w) A (Builtin.«type.__call__» ⟨.ref C::rest,[]⟩) Q E ⟨h,g,d,t,os⟩:=by
 obtain⟨T,nm,q,N,bs,sn,sub,ab,col,dd,k0,k1,k2,k3,k5,hC⟩:=hc
 have F:=PySem.F.excBase_ValueError
 repeat (first|with_reducible refine wpAny_loadPart_at hC ?_|with_reducible refine wpAny_madeBy_exc hC ?_|wp_step)
 refine codeAny_call_builtin_code (Code.quiet_builtin _ F.quiet) (wpAny_check_new_subT F T hC ?_)
 refine codeAny_exc_new_subT F T hC ?_ hrest
 show wpAny _ _ _ _ _ _
 have k:∀b o,h.get? b=some o->((h.push (rawArgs rest)).push (rawX C h.objs.size)).get? b=some o:=fun b o e=>Heap.get?_push_of_some _ (Heap.get?_push_of_some _ e)
 have hC₁:=Heap.get?_push_of_some {cls:= .ref C,data:= .fields #[.ref h.objs.size,.none,.none,.none,.bool false,.none]} (Heap.get?_push_of_some {cls:= .type "tuple",data:= .seq rest.toArray} hC)
 have hget:((h.push {cls:= .type "tuple",data:= .seq rest.toArray}).push {cls:= .ref C,data:= .fields #[.ref h.objs.size,.none,.none,.none,.bool false,.none]}).get? (h.objs.size+1)=some
   {cls:= .ref C,data:= .fields #[.ref h.objs.size,.none,.none,.none,.bool false,.none]}:=by heap_get
 have hcC:(Value.ref C::Value.ref D::veMro).contains (.ref C)=true:=by simp
 have hi₁:=hi.keeps k
 have hb₁:=(hb (.ref (h.objs.size+1))).keeps k
 unfold isInstance
 repeat (first|with_reducible refine wpAny_loadPart_at hget ?_|(with_reducible refine wpAny_isSubtype_exc hC₁ ?_;rw[hcC])|wp_step)
 show wpAny _ _ (typeLookup (.ref C) _) _ _ _
 refine hi₁.here (s:=⟨(h.push (rawArgs rest)).push (rawX C h.objs.size),g,d,t,os⟩) ?_
 refine wpAny_holding (wpAny_bind (hb₁.here (s:=⟨(h.push (rawArgs rest)).push (rawX C h.objs.size),g,d,t,os⟩) ?_))
 refine wpAny_bind (wpAny_mono hq (fun r s' hr=>?_) fun _ _ x=>x)
 obtain⟨rfl,hQ⟩:=hr
 wp_walk
 exact hQ
theorem call_exc_init{rest:List Value}{fI:Addr}{Q:Value->Shared->Prop}(hc:ClsAt h C D)(hi:Looks (model prog w) h (typeLookup (.ref C) "__init__") (some (.ref fI)))
  (hb:∀self,Looks (model prog w) h (bindSpecial (.ref fI) self) (.ref fI,[self]))
  (hq:wpAny (model prog w) (A.under (.builtin "type.__call__" ⟨.ref C::rest,[]⟩)) (call (.ref fI) (.ref (h.objs.size+1)::rest)) (fun r s'=>r= .none/\Q (.ref (h.objs.size+1)) s') E
   ⟨(h.push (rawArgs rest)).push (rawX C h.objs.size),g,d,t,os⟩) (hrest:rest.length<=sizeLine):
  wpAny (model prog w) A (call (.ref C) rest) Q E ⟨h,g,d,t,os⟩:=by
 obtain⟨T,nm,q,N,bs,sn,sub,ab,col,dd,k0,k1,k2,k3,k5,hC⟩:=id hc
 have f1:=tc_lookup
 have f2:=tc_bind (.ref C)
 have hT:(⟨h,g,d,t,os⟩:Shared).TypeIs (.ref C) "type":=⟨_,hC,rfl⟩
 refine wpAny_call (codeAny_of_tree ?_)
 show wpAny _ _ (callAny (.ref C) _) _ _ _
 repeat (any_goals (first|assumption|with_reducible refine wpAny_loadPart_at hC ?_|wp_step))
 refine⟨rfl,?_⟩
 refine codeAny_call_builtin_at (Code.quiet_builtin _ (by decide+kernel)) entry_typeCall (wpAny_check_type_call_sub hC (type_call_init hc hi hb ?_ hrest))
 exact hq
theorem call_exc_plain{rest:List Value}{Q:Value->Shared->Prop}(hc:ClsAt h C D)(hN:∃mN,(∀nm q N bs sn sub ab col dd k0 k1 k2 k3 k5,h.get? C=some (excClassObj nm q C N bs (.ref D::veMro) true sn sub ab col dd k0 k1 k2 k3 k5 "ValueError.__new__")->h.Ns N mN)/\mN "__init__"=none)
  (hq:∀h' e,Heap.MadeExcOf h h' e (.ref C) rest->Q (.ref e) ⟨h',g,d,t,os⟩) (hrest:rest.length<=sizeLine):wpAny (model prog w) A (call (.ref C) rest) Q E ⟨h,g,d,t,os⟩:=by
 obtain⟨T,nm,q,N,bs,sn,sub,ab,col,dd,k0,k1,k2,k3,k5,hC⟩:=hc
 obtain⟨mN,hn,hni⟩:=hN
 exact wpAny_call_exc_subT PySem.F.excBase_ValueError T hC (hn _ _ _ _ _ _ _ _ _ _ _ _ _ _ hC) hni hq hrest
end
section
variable{prog:Program}{w:World}{A:Around}{E:Value->Shared->Prop}{K:Frag}{C D x:Addr}{s:Shared}
theorem store_x{vs:Array Value}{name:Str}{v:Value}{Q:Unit->Shared->Prop}(X:K.In s.heap)(hc:xcIn K C D=true)(hs:findIn K (.ref C) "__setattr__"=some (some (.builtin "object.__setattr__")))(ha:findIn K (.ref C) name=some none)
  (hx:s.heap.get? x=some ⟨.ref C,none,.fields vs,#[]⟩)
  (hq:∀h' tk,h'.get? x=some ⟨.ref C,some s.heap.objs.size,.fields vs,#[]⟩->h'.Ns1 s.heap.objs.size (fun y=>if y=name then some v else none)->(∀b o,b≠x->s.heap.get? b=some o->h'.get? b=some o)->Q () {s with heap:=h',toks:=tk}):
  wpAny (model prog w) A (setAttr (.ref x) name v) Q E s:=by
 have SF:=PySem.F.store_ValueError
 have I:InstAt s.heap x ⟨.ref C,none,.fields vs,#[]⟩ C none:=⟨hx,rfl,rfl,trivial⟩
 refine set_plain X I hs ?_
 obtain⟨T,nm,q,N,bs,sn,sub,ab,col,dd,k0,k1,k2,k3,k5,hC⟩:=clsAt_of X hc
 obtain⟨h,g,d,t,os⟩:=s
 have hm:Looks (model prog w) h (mroOf (.ref C)) (.ref C:: .ref D::veMro):=((Looks.ld (part:=none) hC).andThen .now).andThen .now
 have sub':Looks (model prog w) h (isInstance (.ref x) (.type "object")) true:=I.type.andThen (by
  unfold isSubtype
  exact hm.andThen .now)
 refine codeAny_call_builtin SF.slot.plain SF.entry (@check_slot (model prog w) _ _ ⟨h,g,d,t+1,os⟩ "object.__setattr__" "object" "__setattr__" (.ref x) [.str name t,v] [] _ SF.kind SF.split sub' (SF.args (.ref x) (.str name t) v) ?_)
 rw[osa_eq,refuse_eq]
 refine wpAny_bind (wpAny_bind (I.type.here (s:=⟨h,g,d,t+1,os⟩) (wpAny_bind (hm.here (s:=⟨h,g,d,t+1,os⟩) ?_))))
 rw[refuseLoop_ref,refuseLoop_ref,SF.passes]
 refine wpAny_pure (wpAny_bind (I.type.here (s:=⟨h,g,d,t+1,os⟩) (wpAny_bind ((looks_findIn X ha).here (s:=⟨h,g,d,t+1,os⟩) (wpAny_bind (wpAny_pure ?_))))))
 have hx₁:(h.push {cls:= .type "dict",data:= .dict #[]}).get? x=some ⟨.ref C,none,.fields vs,#[]⟩:=Heap.get?_push_of_some _ hx
 have hxs:x≠h.objs.size:=Nat.ne_of_lt (Heap.lt_size hx)
 refine wpAny_bind (wpAny_pure (wpAny_bind (wpAny_bind (wpAny_loadPart hx ?_))))
 refine wpAny_bind (wpAny_bind (wpAny_load hC (wpAny_pure ?_)))
 refine wpAny_bind (wpAny_alloc' ?_)
 refine wpAny_bind (wpAny_update' hx₁ ?_)
 refine wpAny_pure ?_
 have hgd:((h.push {cls:= .type "dict",data:= .dict #[]}).update x fun o=>{cls:=o.cls,dict:=some h.objs.size,data:=o.data,slots:=o.slots}).get? h.objs.size
   =some {cls:= .type "dict",data:= .dict #[]}:=
  (Heap.get?_update_ne _ _ _ _ hxs.symm).trans (Heap.get?_push_at rfl rfl)
 have hnd:((h.push {cls:= .type "dict",data:= .dict #[]}).update x fun o=>{cls:=o.cls,dict:=some h.objs.size,data:=o.data,slots:=o.slots}).Ns h.objs.size (fun _=>none):=
  ⟨_,#[],_,hgd,rfl,fun e he=>absurd he (by simp),fun _=>rfl⟩
 show wpAny _ _ (storeInDict h.objs.size (.str name t) name v) _ _ _
 unfold storeInDict newKeyGuard
 refine wpAny_bind (wpAny_pure (wpAny_bind (wpAny_nsSet1 (Heap.Ns1.of_empty hnd) fun h' hn' hs=>?_)))
 obtain⟨oD,esD,epD,hoD,hdD,hcD⟩:=hn'.count (PySem.Within.cons name v PySem.Within.nil)
 refine wpAny_bind (wpAny_lookBehind hoD (by rw[hdD];exact pastItsLine_dict (Nat.le_trans hcD (by rw[List.length_cons,List.length_nil,sizeLine_eq];omega))) ?_)
 refine wpAny_pure (hq h' _ ?_ hn' fun b o hb e=>?_)
 ·exact(hs.2 x hxs).trans (Heap.get?_update_self _ hx₁ rfl)
 ·exact(hs.2 b (Nat.ne_of_lt (Heap.lt_size e))).trans ((Heap.get?_update_ne _ _ _ _ hb).trans (Heap.get?_push_of_some _ e))
end
end RX
namespace RX
open PySem PySem.Spec PyProof.Rows L2 PySem.W
def XV(C:Addr)(od:Option Addr)(fv:Array Value)(e:Addr):HO:= .ext fun h=>h.get? e=some ⟨.ref C,od,.fields fv,#[]⟩
theorem XV.ok{P:Program}{w:World}{H:Hp}{h:Heap}{C e:Addr}{od:Option Addr}{fv:Array Value}(x:h.get? e=some ⟨.ref C,od,.fields fv,#[]⟩):ObjOk P w H h e (XV C od fv e):=
 ⟨x,⟨_,x⟩,fun _ _ p k=>k _ p⟩
theorem XV.get{P:Program}{w:World}{H:Hp}{h:Heap}{C e:Addr}{od:Option Addr}{fv:Array Value}(x:HOk P w H h)(q:H e=some (XV C od fv e)):h.get? e=some ⟨.ref C,od,.fields fv,#[]⟩:=(x e _ q).1
structure XCl(K:Frag)(C D:Addr):Prop where
 cls:xcIn K C D=true
 sa:findIn K (.ref C) "__setattr__"=some (some (.builtin "object.__setattr__"))
 kp:keepIn K (.ref C)=true
def sFldX(K:Frag)(ta tv:TE)(f:Str):TS:=fun D σ H=>tv σ H fun y H1=>ta σ H1 fun x H2=>∃e C Dd fv,x= .ref e/\H2 e=some (XV C none fv e)/\XCl K C Dd/\findIn K (.ref C) f=some none/\
 ∀dx,H2 dx=none->dx≠e->D.nx σ (upd (upd H2 dx (.xd [(f,y)])) e (XV C (some dx) fv e))
section
variable{X:Cx}{o value:Expr}{f:Str}{pos pos':Pos}{ta tv:TE}
theorem ps_fldX(ha:PE X o ta)(hv:PE X value tv)(hs:swapsWith value (some (.Attribute o f pos')) pos.line X.env=pure false):PS X (.Assign [.Attribute o f pos'] value pos) (sFldX X.K ta tv f):=by
 intro pins s σ H D I h
 refine plainObj_wpAny_Assign_Attribute (thn (hv pins s σ H _ I h) fun u s1⟨y,H1,I1,ry,q⟩=>thn (ha pins s1 σ H1 _ I1 q) fun ov s2⟨x,H2,I2,rx,e,C,Dd,fv,ex,ea,c,n,q2⟩=>?_) hs
 subst ex
 obtain rfl:ov=Value.ref e:=rx
 have hx:=XV.get I2.hok ea
 have hn:H2 s2.heap.objs.size=none:=I2.hok.fresh (Nat.le_refl _)
 have hne:s2.heap.objs.size≠e:=Nat.ne_of_gt (Heap.lt_size hx)
 refine store_x I2.kIn c.cls c.sa n hx fun h' tk g1 g2 g3=>?_
 have ne1:∀b v,H2 b=some v->(∀φ,v≠.ext φ)->b≠e:=fun b v r nv z=>by rw[z,ea]at r;exact nv _ (Option.some.inj r).symm
 have ne2:∀b v,H2 b=some v->b≠s2.heap.objs.size:=fun b v r z=>by rw[z,hn]at r;cases r
 have ne3:∀b,H2 b=none->b≠e:=fun b r z=>by rw[z,ea]at r;cases r
 have at3:∀b,b≠e->b≠s2.heap.objs.size->upd (upd H2 s2.heap.objs.size (.xd [(f,y)])) e (XV C (some s2.heap.objs.size) fv e) b=H2 b:=fun b h1 h2=>by rw[upd_ne h1,upd_ne h2]
 refine⟨σ,_,I2.un (H':=upd (upd H2 s2.heap.objs.size (.xd [(f,y)])) e (XV C (some s2.heap.objs.size) fv e)) (h':=h') (t':=tk) ⟨?_,?_,?_,?_,?_,?_,?_⟩ fun b v r=>?_,q2 _ hn hne⟩
 ·exact fun b ob r n _ _=>g3 b ob (ne3 b n) r
 ·exact fun b ob r n _ _=>⟨ob.slots,g3 b ob (ne3 b n) r⟩
 ·exact fun b ob r n _=>by rw[at3 b (ne3 b n) (Nat.ne_of_lt (Heap.lt_size r))];exact n
 ·intro b ob r _
  by_cases z:b=e
  ·subst z;exact⟨_,g1⟩
  ·exact⟨_,g3 b ob z r⟩
 ·exact fun b xs r=>by rw[at3 b (ne1 b _ r fun _=>by simp) (ne2 b _ r)];exact r
 ·exact fun b ob xs r=>by rw[at3 b (ne1 b _ r fun _=>by simp) (ne2 b _ r)];exact r
 ·exact fun b ps r=>⟨#[],by rw[at3 b (ne1 b _ r fun _=>by simp) (ne2 b _ r),r];simp⟩
 ·by_cases z:b=e
  ·subst z;rw[upd_same]at r;cases r;exact XV.ok g1
  ·by_cases z2:b=s2.heap.objs.size
   ·subst z2
    rw[upd_ne z,upd_same]at r;cases r
    refine⟨_,g2,fun g=>?_⟩
    by_cases w:g=f
    ·subst w
     rw[if_pos rfl,List.lookup_cons_self];exact ry
    ·rw[if_neg w,show List.lookup g [(f,y)]=none from by unfold List.lookup;rw[beq_eq_false_iff_ne.mpr w];rfl];trivial
   ·rw[at3 b z z2]at r
    refine(I2.hok b v r).stay (fun c ob hc q=>g3 c ob ?_ q) (fun c q=>?_) fun c xs q=>?_
    ·rcases hc with rfl|hc
     ·exact z
     ·exact ne1 c _ hc fun _=>by simp
    ·rw[at3 c (ne1 c _ q fun _=>by simp) (ne2 c _ q)];exact q
    ·rw[at3 c (ne1 c _ q fun _=>by simp) (ne2 c _ q)];exact q
end
section
variable{M:Model}{A:Around}{E:Value->Shared->Prop}{s:Shared}{env:Env}{C D:Addr}{Q:Flow->Shared->Prop}
theorem raise_made{x:Sem Value}(hh:A.handled=none)
  (h:wpAny M A x (fun v s₁=>∃e t od,v= .ref e/\ClsAt s₁.heap C D/\s₁.heap.get? e=some {cls:= .ref C,dict:=od,data:= .fields #[.ref t,.none,.none,.none,.bool false,.none]}/\E (.ref e) s₁) E s):wpAny M A (raiseStmt env (some x) none) Q E s:=by
 have hcB:(Value.ref C::Value.ref D::veMro).contains (.type "BaseException")=true:=by
  rw[List.contains_cons,List.contains_cons]
  exact Bool.or_eq_true_iff.mpr (.inr (Bool.or_eq_true_iff.mpr (.inr (by decide))))
 unfold raiseStmt
 refine wpAny_bind (wpAny_mono h (fun v s₁ h₁=>?_) fun _ _ x=>x)
 obtain⟨e,t,od,rfl,⟨T,nm,q,N,bs,sn,sub,ab,col,dd,k0,k1,k2,k3,k5,hC⟩,he,hE⟩:=h₁
 obtain⟨hp,g,d,tk,os⟩:=s₁
 repeat (first|with_reducible refine wpAny_loadPart_at he ?_|with_reducible refine wpAny_loadPart_at hC ?_|(with_reducible refine wpAny_isSubtype_exc hC ?_;rw[hcB])|wp_step)
 exact wpAny_raiseNew_none hh hE
theorem exec_raise{prog:Program}{w:World}{ex:Expr}{pos:Pos}(hh:A.handled=none)
  (h:wpAny (model prog w) A (eval ex env) (fun v s₁=>∃e t od,v= .ref e/\ClsAt s₁.heap C D/\s₁.heap.get? e=some {cls:= .ref C,dict:=od,data:= .fields #[.ref t,.none,.none,.none,.bool false,.none]}/\E (.ref e) s₁) E s):
  wpAny (model prog w) A (exec (.Raise (some ex) none pos) env) Q E s:=by
 rw[arm_exec_Raise]
 first
  |exact wpAny_bind (wpAny_standAt (raise_made (C:=C) (D:=D) hh (wpAny_bind (wpAny_mono h (fun v s₃ h₃=>wpAny_bind (wpAny_standAt (wpAny_pure h₃))) fun _ _ x=>x))))
  |(simp only[evalOpt,Option.map];exact wpAny_bind (wpAny_standAt (raise_made (C:=C) (D:=D) hh (wpAny_bind (wpAny_mono h (fun v s₃ h₃=>wpAny_bind (wpAny_standAt (wpAny_pure h₃))) fun _ _ x=>x)))))
end
theorem objAt{P:Program}{w:World}{H:Hp}{h:Heap}{a:Addr}{o:HO}(x:ObjOk P w H h a o):∃u,h.get? a=some u:=by
 cases o with
 |lst xs=>obtain⟨_,_,_,_,e⟩:=x;exact⟨_,e⟩
 |tup xs=>obtain⟨_,_,_,o,e,_⟩:=x;exact⟨_,e⟩
 |dK kvs=>obtain⟨_,_,_,_,o,_,_,e,_⟩:=x;exact⟨_,e⟩
 |dT kvs=>obtain⟨_,_,_,_,o,_,_,e,_⟩:=x;exact⟨_,e⟩
 |set S n=>obtain⟨o,_,_,_,e,_⟩:=x;exact⟨_,e⟩
 |ins C dx fs=>obtain⟨_,_,_,e,_⟩:=x;exact⟨_,e⟩
 |own y=>exact x
 |xd fs=>obtain⟨_,⟨_,_,_,e,_⟩,_⟩:=x;exact⟨_,e⟩
 |rng lo hi=>obtain⟨_,_,_,e⟩:=x;exact⟨_,e⟩
 |frz ob u=>obtain⟨e,_⟩:=x;exact⟨_,e⟩
 |tbl ps=>exact⟨_,(show h.get? a=some _ from x)⟩
 |met f y=>exact⟨_,(show h.get? a=some _ from x)⟩
 |ext φ=>obtain⟨_,e,_⟩:=x;exact e
def untr(H:Hp)(e:Addr):Hp:=fun b=>if b=e then none else H b
theorem untr_ne{H:Hp}{e b:Addr}(h:b≠e):untr H e b=H b:=by unfold untr;rw[if_neg h]
theorem untr_same{H:Hp}{e:Addr}:untr H e e=none:=by unfold untr;rw[if_pos rfl]
section
variable{X:Cx}{pins:List (Addr×Obj)}{σ:L2.St}{H:Hp}{s:Shared}
theorem inv_untr{e:Addr}(I:L2.Inv X pins σ H s){φ:Heap->Prop}(he:H e=some (.ext φ)):L2.Inv X pins σ (untr H e) s:=by
 have free:∀b,H b=none->untr H e b=none:=fun b q=>by unfold untr;split<;>first|rfl|exact q
 have ne:∀b v,H b=some v->(∀φ,v≠.ext φ)->b≠e:=fun b v r nv z=>by rw[z,he]at r;exact nv _ (Option.some.inj r).symm
 refine⟨I.ok,I.os,I.bare,⟨I.base.keep,I.base.slot,fun b o q n hx=>free b (I.base.free b o q n hx),I.base.there,fun b xs q=>?_,fun b o xs q=>?_,fun b ps q=>?_⟩,I.loc,I.cell,free _ I.free,fun x c q=>free _ (I.freeC x c q),fun p hp=>?_,fun b u q=>?_,I.len⟩
 ·have r:=I.base.tups b xs q
  rw[untr_ne (ne b _ r fun _=>by simp)];exact r
 ·have r:=I.base.frzs b o xs q
  rw[untr_ne (ne b _ r fun _=>by simp)];exact r
 ·obtain⟨m,r⟩:=I.base.tbls b ps q
  exact⟨m,by rw[untr_ne (ne b _ r fun _=>by simp)];exact r⟩
 ·obtain⟨e1,n,r⟩:=I.pin p hp
  exact⟨e1,free _ n,r⟩
 ·have hb:b≠e:=fun z=>by rw[z,untr_same]at q;cases q
  rw[untr_ne hb]at q
  refine(I.hok b u q).stay (fun _ _ _ z=>z) (fun c z=>?_) fun c xs z=>?_
  ·rw[untr_ne (ne c _ z fun _=>by simp)];exact z
  ·rw[untr_ne (ne c _ z fun _=>by simp)];exact z
theorem un_leave{outer:List Env}{H₀ H':Hp}{h₀ h h' B:Heap}(un:Un (frs outer) [] H₀ H' h₀ h)(s1:B.StaysIn h)(s2:B.StaysIn h')(k1:∀b o,h₀.get? b=some o->b ∉ frs outer->∃o',B.get? b=some o')
  (frf:∀b∈frs outer,H₀ b=none) (nf:∀b∈frs outer,∀o,h.get? b=some o->∀vs,o.data≠.fields vs) (u:h.UpToSlots h'):Un (frs outer) [] H₀ H' h₀ h':=by
 have slot:∀b o,h₀.get? b=some o->H₀ b=none->b∈frs outer->∃sl,h'.get? b=some {o with slots:=sl}:=fun b o e n hb=>by
  obtain⟨sl,e1⟩:=un.slot b o e n hb (by simp)
  obtain⟨sl2,e2⟩:=u b _ e1 (nf b hb _ e1)
  exact⟨sl2,e2⟩
 refine⟨fun b o e n hb _=>?_,fun b o e n hb _=>slot b o e n hb,un.free,fun b o e _=>?_,un.tups,un.frzs,un.tbls⟩
 ·obtain⟨o',h3⟩:=k1 b o e hb
  exact s2 b o (same_of_stays s1 h3 (un.keep b o e n hb (by simp)))
 ·by_cases hb:b∈frs outer
  ·obtain⟨sl,z⟩:=slot b o e (frf b hb) hb
   exact⟨_,z⟩
  ·obtain⟨o',h3⟩:=k1 b o e hb
   exact⟨o',s2 b o' h3⟩
theorem raise_leaves{M:Model}{EE:Value->Shared->Prop}{E:XK}{e C t:Addr}{od:Option Addr}(hst:X.stack=X.env::X.outer)(hf:X.env.frame=some X.env.locals)(hex:X.ex=[])(I:L2.Inv X pins σ H s)
  (hn:X.s₀.heap.get? e=none)(he:s.heap.get? e=some {cls:= .ref C,dict:=od,data:= .fields #[.ref t,.none,.none,.none,.bool false,.none]})(hu:H e=none)(q:E (.ref C) od H):
  wpAny M X.A (leaving X.env (.ref e)) (fun _ s''=>CXe X.prog X.w X.outer X.H₀ X.s₀ E (.ref e) s'') EE s:=by
 have noA:∀b:Addr,b ∉ X.ex:=fun b z=>by rw[hex]at z;cases z
 have st:(hideAll s.heap (e::frs X.stack)).StaysIn s.heap:=fun b o q=>of_hideAll _ q
 have fr:s.heap.FunFrames (hideAll s.heap (e::frs X.stack)) (X.env::X.outer):=by
  have:=I.stack
  rw[hst]at this
  exact funFrames_hide this fun env he a ha=>List.mem_cons_of_mem _ (by rw[hst];exact List.mem_filterMap.mpr ⟨env,he,ha⟩)
 have un0:Un (frs X.outer) [] X.H₀ H X.s₀.heap s.heap:=I.base.mono (fun _ z=>z) fun b z=>absurd z (noA b)
 have k1:∀b o,X.s₀.heap.get? b=some o->b ∉ frs X.outer->∃o',(hideAll s.heap (e::frs X.stack)).get? b=some o':=fun b o q hb=>by
  obtain⟨o',q'⟩:=I.base.there b o q (noA b)
  refine⟨o',hideAll_get _ q' fun hm=>?_⟩
  rcases List.mem_cons.mp hm with z|z
  ·rw[z,hn]at q;cases q
  ·exact(mem_stack hst hf z).elim (Nat.ne_of_lt (Nat.lt_of_lt_of_le (Heap.lt_size q) I.ok.above)) hb
 have k2:∀b u,H b=some u->∃o,(hideAll s.heap (e::frs X.stack)).get? b=some o:=fun b u q=>by
  obtain⟨o,ho⟩:=objAt (I.hok b u q)
  refine⟨o,hideAll_get _ ho fun hm=>?_⟩
  rcases List.mem_cons.mp hm with z|z
  ·rw[z,hu]at q;cases q
  ·rw[I.stkFree b z]at q;cases q
 refine leave_first (base:=hideAll s.heap (e::frs X.stack)) (by rw[<-hst];exact I.ok.frames) fr hf he st (hideAll_none _ (List.mem_cons_self)) rfl rfl fun h' fl u=>?_
 refine⟨e,.ref C,od,H,_,rfl,I.os,I.bare,un_leave un0 st fl.stays k1 I.ok.frf (fun b hb o ho=>?_) u,hok_stays I.hok k2 st fl.stays,fl,k1,k2,q⟩
 obtain⟨_,o',ho',hnf⟩:=fr.mem (by have:=mem_stack_of hst hb;rw[hst]at this;exact this)
 rw[ho]at ho';cases ho';exact hnf
end
def spInit(C:Addr)(f:Str):Sp:=fun vs H Q _=>∃e fv y,vs=[.ref e,y]/\H e=some (XV C none fv e)/\∀dx,H dx=none->dx≠e->Q .non (upd (upd H dx (.xd [(f,y)])) e (XV C (some dx) fv e))
def sRaiseF(C:Addr)(f:Str)(E:XK)(t:TA):TS:=fun _ σ H=>t σ H fun vs H1=>∃y,vs=[y]/\∀dx,H1 dx=none->E (.ref C) (some dx) (upd H1 dx (.xd [(f,y)]))
section
variable{X:Cx}{k:Nat}{C D fI:Addr}{fd:FuncData}{ps:List Str}{E:XK}{x f:Str}{np pos cpos:Pos}{arg:Expr}{t:TA}
theorem ps_raiseF(c:XCl X.K C D)(hi:findIn X.K (.ref C) "__init__"=some (some (.ref fI)))(hfn:isFn X.K (.ref fI)=true)
  (F:FnOk X.prog X.w X.K X.mg X.base CX0 k fI fd ps (spInit C f))(hr:Room (k+1) X.A)(hb:L2.Binds X.K fd ps [])(hg:Gl X x)(hm:X.mg x=some (.ref C))(ha:PA X [arg] t)
  (hst:X.stack=X.env::X.outer)(hf:X.env.frame=some X.env.locals)(hex:X.ex=[])
  (hxe:∀e s',wpAny (model X.prog X.w) X.A (leaving X.env e) (fun _ s''=>CXe X.prog X.w X.outer X.H₀ X.s₀ E e s'') (fun e' s''=>CXe X.prog X.w X.outer X.H₀ X.s₀ E e' s'') s'->X.xe e s')
  (hdb:(x==("__debug__":Str))=false:=by decide) (he:starEach [arg] X.env=(false,eval arg X.env)::starEach [] X.env:=by rfl):
  PS X (.Raise (some (.Call (.Name x np) [arg] [] cpos)) none pos) (sRaiseF C f E t):=by
 intro pins s σ H Dn I h
 refine exec_raise (C:=C) (D:=D) hr.hd (wpAny_Call_Name_kw (ld_glob I hg hm ?_ hdb))
 refine PySem.W.callWith_K (h₀:=X.base) I.ok.mod.kin c.kp (thn (ha cpos pins s σ H _ I h) fun us s1⟨vs,H1,I1,r,y,ev,q⟩=>⟨I1.kIn,?_⟩) he rfl
 subst ev
 have hus:us.length=1:=r.length.symm
 have kin:=I1.kIn
 have hn:X.s₀.heap.get? (s1.heap.objs.size+1)=none:=Heap.get?_none_of_le (Nat.le_succ_of_le I1.sz)
 have hfree:H1 (s1.heap.objs.size+1)=none:=I1.hok.fresh (Nat.le_succ _)
 have e1:((s1.heap.push (rawArgs us)).push (rawX C s1.heap.objs.size)).get? (s1.heap.objs.size+1)=some (rawX C s1.heap.objs.size):=by
  have:=Heap.get?_push_size (s1.heap.push (rawArgs us)) (o:=rawX C s1.heap.objs.size) rfl
  rwa [Heap.size_push]at this
 have I0:=I1.kept (h':=s1.heap.push (rawArgs us)) (t':=s1.toks) fun b u q=>Heap.get?_push_of_some _ q
 have I2:=I0.laid (a:=s1.heap.objs.size+1) (o:=XV C none (rawF s1.heap.objs.size) (s1.heap.objs.size+1)) (h':=(s1.heap.push (rawArgs us)).push (rawX C s1.heap.objs.size)) (t':=s1.toks)
  (fun b u q=>Heap.get?_push_of_some _ q) (Nat.le_of_eq (Heap.size_push _ _)) (XV.ok e1)
 have r2:Vals [V.ref (s1.heap.objs.size+1),y] (Value.ref (s1.heap.objs.size+1)::us):= .cons rfl r
 have hsp:spInit C f [V.ref (s1.heap.objs.size+1),y] (upd H1 (s1.heap.objs.size+1) (XV C none (rawF s1.heap.objs.size) (s1.heap.objs.size+1))) (fun v H'=>v= .non/\∃dx,H1 dx=none/\dx≠s1.heap.objs.size+1/\
   H'=upd (upd (upd H1 (s1.heap.objs.size+1) (XV C none (rawF s1.heap.objs.size) (s1.heap.objs.size+1))) dx (.xd [(f,y)])) (s1.heap.objs.size+1) (XV C (some dx) (rawF s1.heap.objs.size) (s1.heap.objs.size+1))) E0:=
  ⟨_,_,y,rfl,upd_same,fun dx h1 h2=>⟨rfl,dx,by rwa [upd_ne h2]at h1,h2,rfl⟩⟩
 have hl:((Value.ref (s1.heap.objs.size+1)::us)++[]).length=ps.length:=by
  rw[List.append_nil,<-r2.length];exact F.len _ _ _ _ hsp
 have bd:=hb {s1 with heap:=(s1.heap.push (rawArgs us)).push (rawX C s1.heap.objs.size)} (Value.ref (s1.heap.objs.size+1)::us) I2.kIn hl
 rw[List.append_nil]at bd
 refine call_exc_init (D:=D) (clsAt_of kin c.cls) (looks_findIn kin hi) (fun self=>bind_fn kin self (beq_iff_eq.mp hfn)) (wpAny_call (codeAny_mono (F.run _ X.stack _ _ ⟨Value.ref (s1.heap.objs.size+1)::us,[]⟩ _ _ _ E0 (hr.make C us [])
  (I2.env0.make C us []) bd r2 hsp) fun rr s' hq=>?_)) (by rw[List.nil_append,hus,sizeLine_eq];omega)
 cases rr with
 |error e=>exact False.elim hq
 |ok fl=>
  cases fl with
  |ret u=>
   obtain⟨v,H',I3,rv,ev,dx,g1,g2,g3⟩:=I2.after hq
   subst ev g3
   obtain rfl:u=Value.none:=rv
   have he:=XV.get (e:=s1.heap.objs.size+1) I3.hok upd_same
   have I4:=inv_untr (e:=s1.heap.objs.size+1) I3 upd_same
   refine⟨rfl,s1.heap.objs.size+1,s1.heap.objs.size,some dx,rfl,clsAt_of I3.kIn c.cls,he,hxe _ _ (raise_leaves hst hf hex I4 hn he untr_same ?_)⟩
   have e4:untr (upd (upd (upd H1 (s1.heap.objs.size+1) (XV C none (rawF s1.heap.objs.size) (s1.heap.objs.size+1))) dx (.xd [(f,y)])) (s1.heap.objs.size+1) (XV C (some dx) (rawF s1.heap.objs.size) (s1.heap.objs.size+1))) (s1.heap.objs.size+1)
     =upd H1 dx (.xd [(f,y)]):=by
    funext b
    by_cases z:b=s1.heap.objs.size+1
    ·rw[z,untr_same,upd_ne (Ne.symm g2),hfree]
    ·rw[untr_ne z,upd_ne z]
     by_cases z2:b=dx
     ·rw[z2,upd_same,upd_same]
     ·rw[upd_ne z2,upd_ne z2,upd_ne z]
   rw[e4]
   exact q dx g1
  |next=>exact False.elim hq
  |brk=>exact False.elim hq
  |cont=>exact False.elim hq
end
end RX
namespace RX
open PySem PySem.Spec PyProof.Rows L2 PySem.W
open Builtin Builtin.ObjectAttr
structure XGet(K:Frag)(C:Addr):Prop where
 ga:findIn K (.ref C) "__getattribute__"=some (some (.builtin "BaseException.__getattribute__"))
 gh:findIn K (.ref C) "__getattr__"=some none
 hd:hasDictIn K C=true
 be:mroIn K C (.type "BaseException")=some true
 ob:mroIn K C (.type "object")=some true
 cl:findIn K (.ref C) "__class__"=some (some (.builtin "object.__class__"))
 cg:specialIn K (.builtin "object.__class__") "__get__"=some (some (.builtin "getset_descriptor.__get__"))
 ct:takesIn K (.builtin "object.__class__")=some true
theorem bga_kind:builtinKind "BaseException.__getattribute__"=some .slot:=by decide+kernel
theorem bga_split:splitId "BaseException.__getattribute__"=some ("BaseException","__getattribute__"):=by decide+kernel
section
variable{prog:Program}{w:World}{A:Around}{E:Value->Shared->Prop}{s:Shared}{K:Frag}{x C:Addr}{ox:Obj}{od:Option Obj}{name:Str}{tk:Tok}{fill expr:Bool}{Q:Value->Shared->Prop}
theorem getBy_x(X:K.In s.heap)(I:InstAt s.heap x ox C od)(g:XGet K C)
  (h:wpAny (model prog w) A.in1 (Builtin.«object.__getattribute__» ⟨[.ref x,.str name tk],[]⟩) (fun fin s'=>match fin with| .done (.ret v)=>wpAny (model prog w) A (handedOut v) Q E s'|_=>False)
   (fun _ _=>False) s):wpAny (model prog w) A (getAttrBy (.ref x) (.str name tk) fill expr) Q E s:=by
 obtain⟨hh,gg,d,t,os⟩:=s
 have L0:=I.type (M:=model prog w)
 have L1:=looks_findIn (M:=model prog w) X g.ga
 have L2:=looks_findIn (M:=model prog w) X g.gh
 have L3:Looks (model prog w) hh (isInstance (.ref x) (.type "BaseException")) true:=L0.andThen (looks_mroIn X g.be)
 have f3:=PySem.F.excAttr_ValueError.ga.bind (.ref x)
 have hx0:(expr&&onTheHeap (Value.builtin "BaseException.__getattribute__"))=false:=by cases expr<;>rfl
 have hx2:(Value.builtin "BaseException.__getattribute__"==Value.builtin "object.__getattribute__")=false:=by decide+kernel
 have hx1:(onTheHeap (Value.ref C)&&Value.builtin "BaseException.__getattribute__"==Value.builtin "object.__getattribute__")=false:=by rw[hx2];rfl
 unfold getAttrBy
 refine wpAny_holding (wpAny_bind (L0.here (s:=⟨hh,gg,d,t,os⟩) (wpAny_bind (L1.here (s:=⟨hh,gg,d,t,os⟩) ?_))))
 dsimp only
 rw[hx1]
 simp only[Bool.false_eq_true,if_false]
 unfold getAttrByItsOwn hookBefore
 rw[if_pos (show onTheHeap (Value.ref C)=true from rfl)]
 refine wpAny_bind (L2.here (s:=⟨hh,gg,d,t,os⟩) (wpAny_bind (wpAny_attempt (wpAny_holding ?_))))
 unfold callGetattribute
 rw[hx0]
 simp only[Bool.false_eq_true,if_false]
 unfold boundAndCalled
 rw[f3]
 refine wpAny_bind (wpAny_pure (wpAny_call ?_))
 refine codeAny_call_builtin PySem.F.excAttr_ValueError.ga.plain PySem.F.entry_bexc_ga ?_
 refine @check_slot (model prog w) _ _ ⟨hh,gg,d,t,os⟩ "BaseException.__getattribute__" "BaseException" "__getattribute__" (.ref x) [.str name tk] [] _ bga_kind bga_split L3 (PySem.F.args_bexc_ga _ _) ?_
 refine wpAny_mono h (fun fin s' z=>?_) fun _ _ z=>False.elim z
 cases fin with
 |again c=>exact z.elim
 |done f=>
  cases f with
  |ret v=>exact z
  |next=>exact z.elim
  |brk=>exact z.elim
  |cont=>exact z.elim
theorem get_x{o:Obj}{v:Value}(X:K.In s.heap)(I:InstAt s.heap x ox C (some o))(g:XGet K C)(ha:findIn K (.ref C) name=some none)(hl:lookIn name o=some (some v))(hh:handedIn v=true)(h:Q v {s with toks:=s.toks+1}):
  wpAny (model prog w) A (getAttr (.ref x) name expr) Q E s:=by
 have hf:findObj K C (some o) name=some (.value v):=findObj_own g.hd ha rfl hl
 unfold getAttr
 refine wpAny_bind (wpAny_mkText ?_)
 obtain⟨hp,gg,d,t,os⟩:=s
 have L0:=I.type (M:=model prog w)
 have L1:=looks_find (M:=model prog w) X I hf
 refine getBy_x (s:=⟨hp,gg,d,t+1,os⟩) X I g ?_
 refine wpAny_bind (wpAny_pure (wpAny_bind (wpAny_pure (wpAny_bind (L0.here (s:=⟨hp,gg,d,t+1,os⟩) (wpAny_bind (L1.here (s:=⟨hp,gg,d,t+1,os⟩) ?_)))))))
 refine wpAny_pure ?_
 exact handed_on hh h
theorem findObj_dataX{od:Option Obj}{a g:Value}(hc:(clsIn K C).isSome=true)(ha:findIn K (.ref C) name=some (some a))(hg:specialIn K a "__get__"=some (some g))(ht:takesIn K a=some true):findObj K C od name=some (.bind g a):=by
 obtain⟨cd,hcd⟩:=Option.isSome_iff_exists.mp hc
 unfold findObj
 rw[hcd,Option.bind_some,ha,Option.bind_some]
 dsimp only
 rw[hg,Option.bind_some]
 dsimp only
 rw[ht,Option.bind_some]
theorem class_x{Q:Option Value->Shared->Prop}(X:K.In s.heap)(I:InstAt s.heap x ox C od)(g:XGet K C)(h:Q (some (.ref C)) {s with toks:=s.toks+1}):wpAny (model prog w) A (getAttr? (.ref x) "__class__") Q E s:=by
 have hf:findObj K C od "__class__"=some (.bind (.builtin "getset_descriptor.__get__") (.builtin "object.__class__")):=
  findObj_dataX (by obtain⟨cd,hc,_⟩:=any_some g.hd;rw[hc];rfl) g.cl g.cg g.ct
 unfold getAttr? getAttrBy?
 refine wpAny_bind (wpAny_mkText (wpAny_bind (wpAny_attempt ?_)))
 obtain⟨hp,gg,d,t,os⟩:=s
 have L0:=I.type (M:=model prog w)
 have L1:=looks_find (M:=model prog w) X I hf
 refine getBy_x (s:=⟨hp,gg,d,t+1,os⟩) X I g ?_
 refine wpAny_bind (wpAny_pure (wpAny_bind (wpAny_pure (wpAny_bind (L0.here (s:=⟨hp,gg,d,t+1,os⟩) (wpAny_bind (L1.here (s:=⟨hp,gg,d,t+1,os⟩) ?_)))))))
 show wpAny _ _ (bindTo (.builtin "getset_descriptor.__get__") (.builtin "object.__class__") (.ref x) (.ref C)) _ _ _
 unfold bindTo
 dsimp only
 refine wpAny_bind (wpAny_holding (wpAny_call (class_get (s:=⟨hp,gg,d,t+1,os⟩) X I g.ob ?_)))
 refine wpAny_pure ?_
 exact handed_on rfl (wpAny_pure h)
theorem kitx_x(g:XGet K C):KitX K (.ref x) (.ref C) (fun h=>∃ox od,InstAt h x ox C od)where
 ty:=fun _ _ _⟨_,_,I⟩=>I.type
 it:=fun _ _ X _=>by
  obtain⟨cdD,hcD,_⟩:=any_some g.hd
  unfold clsIn at hcD
  split at hcD
  ·rename_i c' d' cd' sl' ho
   intro A' Q' E' s' k q
   unfold isType loadHead
   exact wpAny_bind (wpAny_loadPart (k _ _ (X _ _ ho)) (wpAny_pure q))
  ·cases hcD
 ne:=fun h tp dd its n sl X htp=>by
  obtain⟨cdD,hcD,_⟩:=any_some g.hd
  refine Bool.eq_false_iff.mpr fun q=>?_
  have e:C=tp:=Value.ref.inj (beq_iff_eq.mp q)
  subst e
  unfold clsIn at hcD
  split at hcD
  ·rename_i c' d' cd' sl' ho
   have z:=(X _ _ ho).symm.trans htp
   cases z
  ·cases hcD
 ca:=fun X⟨_,_,I⟩ k=>class_x X I g k
end
def XO(C:Addr)(od:Option Addr)(e:Addr):HO:= .ext fun h=>∃o fv,h.get? e=some o/\o.cls= .ref C/\o.dict=od/\o.data= .fields fv
theorem XO.ok{P:Program}{w:World}{H:Hp}{h:Heap}{C e:Addr}{od:Option Addr}{o:Obj}{fv:Array Value}(e1:h.get? e=some o)(e2:o.cls= .ref C)(e3:o.dict=od)(e4:o.data= .fields fv):ObjOk P w H h e (XO C od e):=
 ⟨⟨o,fv,e1,e2,e3,e4⟩,⟨_,e1⟩,fun _ _⟨o,fv,p,r⟩ k=>⟨o,fv,k _ p,r⟩⟩
section
variable{P:Program}{w:World}{H:Hp}{h:Heap}{C e:Addr}{od:Option Addr}
theorem XO.get(x:HOk P w H h)(q:H e=some (XO C od e)):∃o fv,h.get? e=some o/\o.cls= .ref C/\o.dict=od/\o.data= .fields fv:=(x e _ q).1
theorem notCls_fields{o:Obj}{fv:Array Value}(h:o.data= .fields fv):notCls o=true:=by unfold notCls;rw[h]
theorem XO.inst(x:HOk P w H h)(q:H e=some (XO C od e))(hd:∀dx,od=some dx->∃u,H dx=some u):∃ox oo,InstAt h e ox C oo:=by
 obtain⟨o,fv,e1,e2,e3,e4⟩:=XO.get x q
 cases od with
 |none=>exact⟨o,none,e1,e2,notCls_fields e4,by rw[e3];trivial⟩
 |some dx=>
  obtain⟨u,hu⟩:=hd dx rfl
  obtain⟨o',ho'⟩:=objAt (x dx u hu)
  exact⟨o,some o',e1,e2,notCls_fields e4,by rw[e3];exact ho'⟩
end
section
variable{X:Cx}{f:Str}{e:Expr}{ta:TE}{pos:Pos}
def tFldX(K:Frag)(ta:TE)(f:Str):TE:=fun σ H Q=>ta σ H fun x H1=>∃a C dx fs v,x= .ref a/\H1 a=some (XO C (some dx) a)/\H1 dx=some (.xd fs)/\XGet K C/\findIn K (.ref C) f=some none/\fs.lookup f=some v/\(∀n,v≠.ty n)/\Q v H1
theorem pe_fldX(he:PE X e ta)(hb:attributeBase e f X.env (eval e X.env)=eval e X.env):PE X (.Attribute e f pos) (tFldX X.K ta f):=by
 intro pins s σ H Q I h
 refine attr_of hb (thn (he pins s σ H _ I h) fun u s1⟨x,H1,I1,rx,a,C,dx,fs,v,ex,ea,ed,g,n,l,nt,q⟩=>?_)
 subst ex
 obtain rfl:u=Value.ref a:=rx
 obtain⟨o,fv,e1,e2,e3,e4⟩:=XO.get I1.hok ea
 obtain⟨mA,hns,r⟩:=(show ObjOk X.prog X.w H1 s1.heap dx (.xd fs)from I1.hok dx _ ed)
 obtain⟨u',hu,ru⟩:=RelO.some_of (v:=v) (o:=mA f) (by rw[<-l];exact r f)
 obtain⟨od,ho,hl⟩:=lookIn_ns hns
 exact get_x I1.kIn ⟨e1,e2,notCls_fields e4,by rw[e3];exact ho⟩ g n (by rw[hl,hu]) (handed_of ru) ⟨v,H1,I1.tok _,ru,q⟩
def clV:V->Option Value
 | .ref a=>some (.ref a)
 | .ty n=>some (.type n)
 |_=>none
theorem clV_rel{y:V}{c u:Value}(e:clV y=some c)(r:L2.RelV y u):u=c:=by
 cases y<;>cases e<;>exact r
def rIsX(K:Frag):List V->Hp->VK->Prop:=fun xs H Q=>∃a C od y c b,xs=[.ref a,y]/\H a=some (XO C od a)/\(∀dx,od=some dx->∃u,H dx=some u)/\XGet K C/\clV y=some c/\kitOne K (.ref C) c=some b/\Q (.bl b) H
theorem call_isinstX:CallR X (.builtin "isinstance") (rIsX X.K):=by
 intro pins s σ H xs us Q I r h
 obtain⟨a,C,od,y,c,b,rfl,ea,hd,g,ec,e,q⟩:=h
 obtain⟨u,w',rfl,rx,ry⟩:=vals2 r
 cases(show u=Value.ref a from rx)
 cases clV_rel ec ry
 exact kia_one (kitx_x g) I.kIn (XO.inst I.hok ea hd) e (fun z=>nomatch z) fun tk=>⟨.bl b,H,I.tok tk,rfl,q⟩
def rIsXT(K:Frag):List V->Hp->VK->Prop:=fun xs H Q=>∃a C od tp,∃(cs:List Addr)(b:Bool),xs=[.ref a,.ref tp]/\H a=some (XO C od a)/\(∀dx,od=some dx->∃u,H dx=some u)/\XGet K C/\H tp=some (.tup (cs.map V.ref))/\
 kitAny K (.ref C) (cs.map Value.ref)=some b/\Q (.bl b) H
theorem call_isinstXT:CallR X (.builtin "isinstance") (rIsXT X.K):=by
 intro pins s σ H xs us Q I r h
 obtain⟨a,C,od,tp,cs,b,rfl,ea,hd,g,et,e,q⟩:=h
 obtain⟨u,w',rfl,rx,ry⟩:=vals2 r
 cases(show u=Value.ref a from rx)
 cases(show w'=Value.ref tp from ry)
 obtain⟨_,its,rv,o,h1,h2,n,h3⟩:=(show ObjOk X.prog X.w H s.heap tp (.tup (cs.map V.ref))from I.hok tp _ et)
 obtain⟨oc,od',odt,osl⟩:=o
 dsimp only at h2 h3
 subst h2 h3
 rw[refs_of rv]at h1
 exact kia_tup (kitx_x g) I.kIn (XO.inst I.hok ea hd) h1 e (fun z=>nomatch z) fun tk=>⟨.bl b,H,I.tok tk,rfl,q⟩
end
end RX
namespace RX
open PySem PySem.Spec PyProof.Rows L2 PySem.W
section
variable{X:Cx}{pins:List (Addr×Obj)}{σ:L2.St}{H0 H':Hp}{s0 s':Shared}{e C:Addr}{cls fl fl':Value}{od:Option Addr}{B h':Heap}
structure Ly(X:Cx)(H0:Hp)(s0:Shared)(e:Addr)(cls:Value)(od:Option Addr)(H':Hp)(B:Heap)(fl:Value)(s':Shared):Prop where
 os:s'.os=s0.os
 bare:AllBare s'.gens
 un:Un (frs X.stack) [] H0 H' s0.heap s'.heap
 hok:HOk X.prog X.w H' s'.heap
 fly:Fl B X.stack e cls od fl s'.heap
 k1:∀b o,s0.heap.get? b=some o->b ∉ frs X.stack->∃o',B.get? b=some o'
 k2:∀b u,H' b=some u->∃o,B.get? b=some o
theorem Ly.to(x:Ly X H0 s0 e cls od H' B fl s')(I:L2.Inv X pins σ H0 s0)(f:Fl B X.stack e cls od fl' h')(u:s'.heap.UpToSlots h'):Ly X H0 s0 e cls od H' B fl' {s' with heap:=h'}:=by
 refine⟨x.os,x.bare,un_leave x.un x.fly.stays f.stays x.k1 I.stkFree (fun b hb o ho=>?_) u,hok_stays x.hok x.k2 x.fly.stays f.stays,f,x.k1,x.k2⟩
 obtain⟨_,o',ho',hnf⟩:=x.fly.frames.mem hb
 rw[ho]at ho';cases ho';exact hnf
theorem Ly.free(x:Ly X H0 s0 e cls od H' B fl s'):H' e=none:=by
 cases q:H' e with
 |none=>rfl
 |some u=>
  obtain⟨o,ho⟩:=x.k2 e u q
  rw[x.fly.new]at ho;cases ho
theorem Ly.fresh(x:Ly X H0 s0 e cls od H' B fl s'):s0.heap.get? e=none:=by
 cases q:s0.heap.get? e with
 |none=>rfl
 |some o=>
  by_cases hb:e∈frs X.stack
  ·obtain⟨_,o',ho',hnf⟩:=x.fly.frames.mem hb
   obtain⟨oe,vs,_,_,_,he,_,hd,_⟩:=x.fly.trace
   rw[he]at ho';cases ho'
   exact absurd hd (hnf vs)
  ·obtain⟨o',h⟩:=x.k1 e o q hb
   rw[x.fly.new]at h;cases h
theorem Ly.inv(x:Ly X H0 s0 e cls od H' B fl s')(I:L2.Inv X pins σ H0 s0):L2.Inv X pins σ H' s':=
 I.call' (ch:=[]) x.os x.un x.hok x.bare fun b z=>absurd z (by simp)
theorem Ly.track(x:Ly X H0 s0 e (.ref C) od H' B fl s')(I:L2.Inv X pins σ H0 s0):L2.Inv X pins σ (upd H' e (XO C od e)) s':=by
 have nf:=x.free
 have ne:∀b v,H' b=some v->b≠e:=fun b v q z=>by rw[z,nf]at q;cases q
 refine I.call' (ch:=[]) x.os ⟨x.un.keep,x.un.slot,fun b o q n hx=>?_,x.un.there,fun b xs q=>?_,fun b o xs q=>?_,fun b ps q=>?_⟩ (fun b u q=>?_) x.bare fun b z=>absurd z (by simp)
 ·rw[upd_ne (fun z=>by rw[z,x.fresh]at q;cases q)]
  exact x.un.free b o q n hx
 ·have r:=x.un.tups b xs q
  rw[upd_ne (ne b _ r)];exact r
 ·have r:=x.un.frzs b o xs q
  rw[upd_ne (ne b _ r)];exact r
 ·obtain⟨m,r⟩:=x.un.tbls b ps q
  exact⟨m,by rw[upd_ne (ne b _ r)];exact r⟩
 ·by_cases z:b=e
  ·subst z
   rw[upd_same]at q;cases q
   obtain⟨oe,vs,_,_,_,he,⟨hc,hd⟩,hf,_⟩:=x.fly.trace
   exact XO.ok he hc hd hf
  ·rw[upd_ne z]at q
   refine(x.hok b u q).stay (fun _ _ _ r=>r) (fun c r=>?_) fun c xs r=>?_
   ·rw[upd_ne (ne c _ r)];exact r
   ·rw[upd_ne (ne c _ r)];exact r
end
abbrev mrk(X:Cx)(e:Addr):Cx:={X with A:=X.A.mark (some (.ref e)),calm:=false,xe:=fun _ _=>False}
section
variable{X:Cx}{pins:List (Addr×Obj)}{σ:L2.St}{H:Hp}{s:Shared}{e:Addr}
theorem inv_mrk(I:L2.Inv X pins σ H s)(e:Addr):L2.Inv (mrk X e) pins σ H s:=
 have ok:=I.ok
 ⟨⟨ok.mod,ok.kind,ok.glob,ok.blt,ok.above,ok.inj,ok.has,ok.cab,(fun z=>Bool.noConfusion z),ok.frames,ok.stk,ok.exf,ok.bs,ok.bsz,ok.noex,ok.exfs,ok.funs,ok.frf⟩,I.os,I.bare,I.base,I.loc,I.cell,I.free,I.freeC,I.pin,I.hok,I.len⟩
theorem inv_unmrk(ok:X.Ok)(I:L2.Inv (mrk X e) pins σ H s):L2.Inv X pins σ H s:=
 ⟨ok,I.os,I.bare,I.base,I.loc,I.cell,I.free,I.freeC,I.pin,I.hok,I.len⟩
theorem inv_pn{pn:List (Addr×Obj)}{E:Value->Shared->Prop}(I:L2.Inv X pins σ H s)(h:∀p∈pn,p∈X.pn++pins):L2.Inv {X with pn:=pn,xe:=E} [] σ H s:=
 have ok:=I.ok
 ⟨⟨ok.mod,ok.kind,ok.glob,ok.blt,ok.above,ok.inj,ok.has,ok.cab,ok.hd,ok.frames,ok.stk,ok.exf,ok.bs,ok.bsz,ok.noex,ok.exfs,ok.funs,ok.frf⟩,I.os,I.bare,I.base,I.loc,I.cell,I.free,I.freeC,fun p hp=>I.pin p (h p (by simpa using hp)),I.hok,I.len⟩
theorem inv_unpn{pn pins':List (Addr×Obj)}{E:Value->Shared->Prop}(ok:X.Ok)(I:L2.Inv {X with pn:=pn,xe:=E} pins' σ H s)(h:∀p∈X.pn++pins,p∈pn):L2.Inv X pins σ H s:=
 ⟨ok,I.os,I.bare,I.base,I.loc,I.cell,I.free,I.freeC,fun p hp=>I.pin p (List.mem_append_left _ (h p hp)),I.hok,I.len⟩
theorem goes_ok{M:Model}{A:Around}{E:Value->Shared->Prop}{i:Nat}{n:Str}{pos:Pos}{Q:Unit->Shared->Prop}(I:L2.Inv X pins σ H s)(hN:X.N.Nodup)(hi:X.N[i]?=some n)(hk:X.env.scope.names.lookup n=some .local)
  (h:∀s',L2.Inv X pins (σ.set i none) H s'->Q () s'):wpAny M A (do bindName X.env n .none;unbindBehindTheSuite X.env n pos) Q E s:=by
 obtain⟨m,hn,hl⟩:=id I.loc
 have hcls:(X.env.scope.kind== .class||(X.env.scope.kind== .module&&X.env.locals !=X.env.globals))=false:=by rw[I.ok.kind];rfl
 have hiσ:i<σ.length:=by rw[I.len];exact(List.getElem?_eq_some_iff.mp hi).1
 obtain⟨oL,_,_,hoL,_⟩:=id hn
 refine wpAny_nameGoes_keeps hk hn hcls fun h' v hn' hs=>?_
 have tracked:HOk X.prog X.w H h':=fun b ob e=>by
  refine(I.hok b ob e).stay (fun c w' hc q=>(hs.2 c ?_).trans q) (fun _ q=>q) fun _ _ q=>q
  rintro rfl
  rcases hc with hc|hc
  ·rw[<-hc,I.free]at e;cases e
  ·rw[I.free]at hc;cases hc
 have low:∀b o,X.s₀.heap.get? b=some o->b≠X.env.locals:=fun b o e=>Nat.ne_of_lt (Nat.lt_of_lt_of_le (Heap.lt_size e) I.ok.above)
 refine h _ ⟨I.ok,I.os,I.bare,⟨fun b o e n hb hx=>?_,fun b o e n hb hx=>?_,I.base.free,fun b o e hx=>?_,I.base.tups,I.base.frzs,I.base.tbls⟩,⟨_,hn',fun j y v' e1 e2 e3=>?_⟩,fun y c e=>?_,I.free,I.freeC,fun p hp=>?_,tracked,by simpa using I.len⟩
 ·exact(hs.2 b (low b o e)).trans (I.base.keep b o e n hb hx)
 ·obtain⟨sl,e1⟩:=I.base.slot b o e n hb hx
  exact⟨sl,(hs.2 b (low b o e)).trans e1⟩
 ·obtain⟨o',e1⟩:=I.base.there b o e hx
  exact⟨o',(hs.2 b (low b o e)).trans e1⟩
 ·by_cases hj:j=i
  ·subst hj
   rw[List.getElem?_set_self hiσ]at e2
   cases e2
  ·rw[List.getElem?_set_ne (Ne.symm hj)]at e2
   obtain⟨u',r',q⟩:=hl j y v' e1 e2 e3
   refine⟨u',r',?_⟩
   rcases q with⟨k,e⟩|⟨k,c,e,z⟩
   ·refine .inl ⟨k,?_⟩
    have:y≠n:=fun e=>hj (nodup_ix hN e1 (e▸hi))
    simp[this,e]
   ·exact .inr ⟨k,c,e,z.sameBut hs (I.cne y c e)⟩
 ·obtain⟨w',z⟩:=I.cell y c e
  exact⟨w',z.sameBut hs (I.cne y c e)⟩
 ·obtain⟨e,n,ne,nf,d⟩:=I.pin p hp
  exact⟨(hs.2 p.1 ne).trans e,n,ne,nf,d⟩
end
theorem match_own{M:Model}{A:Around}{E:Value->Shared->Prop}{s:Shared}{K:Frag}{e C C':Addr}{oe:Obj}{b:Bool}{Q:Bool->Shared->Prop}(X:K.In s.heap)(he:s.heap.get? e=some oe)(hc:oe.cls= .ref C)
  (k:kitCls K (.ref C) (.ref C')=some b)(hb:mroIn K C' (.type "BaseException")=some true)(q:Q b s):wpAny M A (excMatches (.ref e) (.ref C')) Q E s:=by
 obtain⟨hty,his,hsub⟩:=kit_cls (M:=M) X k
 obtain⟨hh,g,d,t,os⟩:=s
 have L1:Looks M hh (isInstance (.ref C') (.type "tuple")) false:=hty.andThen (Looks.of_pure tc_notTuple)
 have L2:Looks M hh (isExcClass (.ref C')) true:=by
  unfold isExcClass
  refine his.andThen ?_
  rw[if_pos rfl]
  exact looks_mroIn X hb
 have L3:Looks M hh (typeOf (.ref e)) (.ref C):=hc▸(Looks.ld he).andThen .now
 unfold excMatches
 refine wpAny_bind (L1.here (s:=⟨hh,g,d,t,os⟩) ?_)
 simp only[Bool.false_eq_true,if_false]
 refine wpAny_bind (wpAny_pure (wpAny_bind ?_))
 rw[List.forIn_cons]
 refine wpAny_bind (wpAny_bind (L2.here (s:=⟨hh,g,d,t,os⟩) ?_))
 simp only[Bool.not_true,Bool.false_eq_true,if_false]
 refine wpAny_pure ?_
 dsimp only
 rw[List.forIn_nil]
 refine wpAny_pure (wpAny_bind (L3.here (s:=⟨hh,g,d,t,os⟩) (wpAny_bind ?_)))
 rw[List.forIn_cons]
 refine wpAny_bind (wpAny_bind (hsub.here (s:=⟨hh,g,d,t,os⟩) ?_))
 cases b with
 |true=>exact wpAny_pure (wpAny_pure (wpAny_pure q))
 |false=>
  simp only[Bool.false_eq_true,if_false]
  refine wpAny_pure ?_
  dsimp only
  rw[List.forIn_nil]
  exact wpAny_pure (wpAny_pure q)
abbrev TH:=L2.St->Value->Option Addr->Hp->Ends->Prop
def PH(X:Cx)(hs:List ExceptHandler)(th:TH):Prop:=∀(pins:List (Addr×Obj))(σ:L2.St)(H0:Hp)(s0:Shared)(e:Addr)(cls:Value)(od:Option Addr)(H':Hp)(B:Heap)(s':Shared)(D:Ends),
 L2.Inv X pins σ H0 s0->Ly X H0 s0 e cls od H' B .none s'->th σ cls od H' D->wpAny (model X.prog X.w) X.A (handleBy (.ref e) X.env hs) (SP X pins D) X.xe s'
abbrev tryX(X:Cx)(pn:List (Addr×Obj))(E:Value->Shared->Prop):Cx:={X with pn:=pn,xe:=E}
def Takes(X:Cx)(Ex:L2.St->XK):Prop:=∀(pins:List (Addr×Obj))(σ:L2.St)(H:Hp)(s:Shared)(e:Value)(s':Shared),L2.Inv X pins σ H s->CXe X.prog X.w X.stack H s (Ex σ) e s'->X.xe e s'
def sTry(tb:(L2.St->XK)->TS)(th:TH):TS:=fun D σ H=>tb (fun σ' cls od H'=>th σ' cls od H' D) D σ H
section
variable{X:Cx}{body suite:List Stmt}{h₀:ExceptHandler}{hs rest:List ExceptHandler}{tb:(L2.St->XK)->TS}{th:TH}{pos hpos cp:Pos}
theorem ps_try(hst:X.stack=X.env::X.outer)(hf:X.env.frame=some X.env.locals)(hb:∀pn E Ex,Takes (tryX X pn E) Ex->PSs (tryX X pn E) body (tb Ex)) (hh:PH X (h₀::hs) th):PS X (.Try body (h₀::hs) [] [] pos) (sTry tb th):=by
 intro pins s σ H D I h
 refine wpAny_Try_except ?_
 refine wpAny_mono (hb (X.pn++pins) (fun ev s₁=>wpAny (model X.prog X.w) X.A (noteFrame ev X.env) (fun _ s₂=>wpAny (model X.prog X.w) X.A (setFlight ev none) (fun _ s₃=>wpAny (model X.prog X.w) X.A (handleBy ev X.env (h₀::hs)) (SP X pins D) X.xe s₃) X.xe s₂) X.xe s₁)
  (fun σ' cls od H'=>th σ' cls od H' D) (fun pins' σ' H1 s1 ev s' I1 x=>?_) [] s σ H D (inv_pn I fun p hp=>hp) h) (fun f s1 q=>?_) fun _ _ q=>q
 ·have I2:L2.Inv X pins σ' H1 s1:=inv_unpn I.ok I1 fun p hp=>hp
  obtain⟨e,cls,od,H',B,rfl,os,bare,un,hok,fl,k1,k2,q⟩:=x
  have y:Ly X H1 s1 e cls od H' B .none s':=⟨os,bare,un,hok,fl,k1,k2⟩
  have fl':Fl B (X.env::X.outer) e cls od .none s'.heap:=by rw[<-hst];exact fl
  show wpAny (model X.prog X.w) X.A (noteFrame (.ref e) X.env) _ _ s'
  refine note_on (by rw[<-hst];exact I.ok.frames) hf fl' fun h1 f1 u1=>?_
  rw[<-hst]at f1
  have y1:=y.to I2 f1 u1
  refine flight_off (s:={s' with heap:=h1}) f1 fun h2 f2 u2=>?_
  exact hh pins σ' H1 s1 e cls od H' B _ D I2 (y1.to I2 f2 u2) q
 ·have up:∀{σ':L2.St}{H':Hp}{EE:Value->Shared->Prop},L2.Inv (tryX X (X.pn++pins) EE) [] σ' H' s1->L2.Inv X pins σ' H' s1:=fun J=>inv_unpn I.ok J fun p hp=>hp
  cases f with
  |next=>obtain⟨σ',H',J,r⟩:=q;exact wpAny_pure ⟨σ',H',up J,r⟩
  |brk=>obtain⟨σ',H',J,r⟩:=q;exact⟨σ',H',up J,r⟩
  |cont=>obtain⟨σ',H',J,r⟩:=q;exact⟨σ',H',up J,r⟩
  |ret u=>obtain⟨v,σ',H',J,rv,r⟩:=q;exact⟨v,σ',H',up J,rv,r⟩
theorem ph_nil:PH X [] (fun _ _ _ _ _=>False):=fun _ _ _ _ _ _ _ _ _ _ _ _ _ h=>h.elim
def unE(i:Nat)(D:Ends):Ends:={nx:=fun σ H=>D.nx (σ.set i none) H,rt:=D.rt,bk:=fun σ H=>D.bk (σ.set i none) H,ct:=fun σ H=>D.ct (σ.set i none) H}
def thAs(K:Frag)(C':Addr)(i:Nat)(ts:TS)(th:TH):TH:=fun σ cls od H D=>∃C b,cls= .ref C/\kitCls K (.ref C) (.ref C')=some b/\
 if b=true then∀e,H e=none->ts (unE i D) (σ.set i (some (.ref e))) (upd H e (XO C od e))else th σ cls od H D
theorem ph_as{c n:Str}{C':Addr}{i:Nat}{b₀:Stmt}{ts:TS}(hg:Gl X c)(hm:X.mg c=some (.ref C'))(hbe:mroIn X.K C' (.type "BaseException")=some true)(hN:X.N.Nodup)(hi:X.N[i]?=some n)
  (hk:X.env.scope.names.lookup n=some .local)(hs:∀e,PSs (mrk X e) (b₀::suite) ts) (hr:PH X rest th) (hdb:(c==("__debug__":Str))=false:=by decide):
  PH X (.ExceptHandler (some (.Name c cp)) (some n) (b₀::suite) hpos::rest) (thAs X.K C' i ts th):=by
 intro pins σ H0 s0 e cls od H' B s' D I y h
 obtain⟨C,b,rfl,hkit,h⟩:=h
 have J:=y.inv I
 have Jm:=inv_mrk J e
 obtain⟨oe,vs,_,_,_,he,⟨hc,_⟩,_⟩:=y.fly.trace
 refine wpAny_handleBy_cons (codeAny_handlers_test (ld_glob (X:=mrk X e) Jm hg hm ?_ hdb)) (by intro q;cases q)
 refine match_own J.kIn he hc hkit hbe ?_
 cases b with
 |false=>
  rw[if_neg (by decide)]at h
  exact hr pins σ H0 s0 e _ od H' B s' D I y h
 |true=>
  rw[if_pos rfl]at h
  refine codeAny_handlers_suite_as ?_
  refine flight_off y.fly fun h2 f2 u2=>?_
  have y2:=y.to I f2 u2
  have J2:=inv_mrk (y2.track I) e
  refine store_ok (X:=mrk X e) J2 hN hi (.inl hk) (v:= .ref e) rfl (fun s3 J3=>?_) (.inr hk)
  refine wpAny_mono (hs e pins s3 _ _ (unE i D) J3 (h e y.free)) (fun f s4 q=>?_) fun _ _ z=>False.elim z
  have ok:=I.ok
  cases f with
  |next=>obtain⟨σ',H4,J4,r⟩:=q;exact goes_ok (inv_unmrk ok J4) hN hi hk fun s5 J5=>⟨_,_,J5,r⟩
  |brk=>obtain⟨σ',H4,J4,r⟩:=q;exact goes_ok (inv_unmrk ok J4) hN hi hk fun s5 J5=>⟨_,_,J5,r⟩
  |cont=>obtain⟨σ',H4,J4,r⟩:=q;exact goes_ok (inv_unmrk ok J4) hN hi hk fun s5 J5=>⟨_,_,J5,r⟩
  |ret u=>obtain⟨v,σ',H4,J4,rv,r⟩:=q;exact goes_ok (inv_unmrk ok J4) hN hi hk fun s5 J5=>⟨v,_,_,J5,rv,r⟩
end
structure RoomM(k:Nat)(A:Around):Prop where
 dp:A.depth+3*k+5<recursionLimit
 un:A.units+16*k+200<cLine
theorem RoomM.of{k:Nat}{A:Around}(r:Room k A)(h:Option Value):RoomM k (A.mark h):=⟨r.dp,r.un⟩
theorem RoomM.mono{j k:Nat}{A:Around}(r:RoomM k A)(h:j<=k):RoomM j A:=⟨by have:=r.dp;omega,by have:=r.un;omega⟩
theorem RoomM.deeper{k:Nat}{A:Around}(r:RoomM (k+1) A)(env:Env):RoomM k (A.deeper env):=
 ⟨by have:=r.dp;show A.depth+1+3*k+5<_;omega,by have:=r.un;show A.units+3+16*k+200<_;omega⟩
theorem RoomM.units{k:Nat}{A:Around}(r:RoomM k A):A.units+64<cLine:=by have:=r.un;omega
theorem funX_ok{P:Program}{w:World}{K:Frag}{mg:Str->Option Value}{base:Heap}{x qual:Str}{st:Stmt}{f:Addr}{fd:FuncData}{N ps:List Str}{k:Nat}{sp:Sp}(F:L2.Fun K x qual st f fd)(S:FnScope N ps (L2.defScope st))(len:∀vs H Q E,sp vs H Q E->vs.length=ps.length)
  (hbody:∀(cdv:Value)(A:Around)(outer:List Env)(s:Shared)(H:Hp)(vs:List V)(Q:VK)(E:XK),Room k (A.deeper (envOfC qual (L2.defScope st) s.heap.objs.size f cdv))->sp vs H Q E->
   ∃t,PSs (cxOf (CXe P w) P w K mg base N qual (L2.defScope st) f cdv A outer s H E) (L2.defBody st) t/\t {nx:=fun _ H'=>Q .non H',rt:=Q} (start N vs) H):FnOk P w K mg base (CXe P w) (k+1) f fd ps sp:=by
 obtain⟨oc,od,kV,doc,pm,an,cdv,ct,osl,rfl,lk,hcd⟩:=F.ex
 exact fn_of lk hcd S len fun A outer s H vs Q E hr hsp=>hbody cdv A outer s H vs Q E hr hsp
def xnIn(K:Frag)(C:Addr):Bool:=match K.lookup C with
 |some ⟨_,_,.cls cd,_⟩=>(match K.lookup cd.ns with|some ⟨_,_,.dict es _,_⟩=>es.toList.all strKey&&(nsFind es "__init__").isNone|_=>false)
 |_=>false
theorem ns_of{K:Frag}{h:Heap}{C D:Addr}(X:K.In h)(e:xnIn K C=true):
  ∃mN,(∀nm q N bs sn sub ab col dd k0 k1 k2 k3 k5,h.get? C=some (excClassObj nm q C N bs (.ref D::veMro) true sn sub ab col dd k0 k1 k2 k3 k5 "ValueError.__new__")->h.Ns N mN)/\mN "__init__"=none:=by
 unfold xnIn at e
 split at e
 ·rename_i c d cd sl hC
  split at e
  ·rename_i c3 d3 es n3 sl3 hN
   rw[Bool.and_eq_true]at e
   refine⟨nsFind es,fun nm q N bs sn sub ab col dd k0 k1 k2 k3 k5 hg=>?_,by simpa using e.2⟩
   have z:=(X _ _ hC).symm.trans hg
   have z2:cd.ns=N:=congrArg (fun o:Option Obj=>match o with|some ⟨_,_,.cls cd,_⟩=>cd.ns|_=>0) z
   subst z2
   exact⟨_,es,n3,X _ _ hN,rfl,strKeys_of e.1,fun _=>rfl⟩
  ·cases e
 ·cases e
def sRaise0(C:Addr)(E:XK):TS:=fun _ _ H=>E (.ref C) none H
theorem ps_raise0{X:Cx}{k:Nat}{C D:Addr}{E:XK}{x:Str}{np pos cpos:Pos}(c:xcIn X.K C D=true)(cn:xnIn X.K C=true)(kp:keepIn X.K (.ref C)=true)(hr:Room k X.A)(hg:Gl X x)(hm:X.mg x=some (.ref C))
  (hst:X.stack=X.env::X.outer)(hf:X.env.frame=some X.env.locals)(hex:X.ex=[])
  (hxe:∀e s',wpAny (model X.prog X.w) X.A (leaving X.env e) (fun _ s''=>CXe X.prog X.w X.outer X.H₀ X.s₀ E e s'') (fun e' s''=>CXe X.prog X.w X.outer X.H₀ X.s₀ E e' s'') s'->X.xe e s')
  (hdb:(x==("__debug__":Str))=false:=by decide):PS X (.Raise (some (.Call (.Name x np) [] [] cpos)) none pos) (sRaise0 C E):=by
 intro pins s σ H Dn I h
 refine exec_raise (C:=C) (D:=D) hr.hd (wpAny_Call_Name_kw (ld_glob I hg hm ?_ hdb))
 refine PySem.W.callWith_K0 I.kIn kp ?_
 obtain⟨hp,g,d,tk,os⟩:=s
 refine call_exc_plain (clsAt_of I.kIn c) (ns_of I.kIn cn) (fun h' e hM=>?_) (Nat.zero_le _)
 obtain⟨t,he,ht,htt⟩:=hM.there
 have I1:=I.kept (h':=h') (t':=tk) hM.keeps
 have noA:∀b:Addr,b ∉ X.ex:=fun b z=>by rw[hex]at z;cases z
 have hn:X.s₀.heap.get? e=none:=by
  cases q:X.s₀.heap.get? e with
  |none=>rfl
  |some o=>
   obtain⟨o',q'⟩:=I.base.there e o q (noA e)
   have:=hM.new
   rw[show hp.get? e=some o' from q']at this
   cases this
 have hfree:H e=none:=by
  cases q:H e with
  |none=>rfl
  |some u=>
   obtain⟨o,ho⟩:=objAt (I.hok e u q)
   have:=hM.new
   rw[show hp.get? e=some o from ho]at this
   cases this
 exact⟨e,t,none,rfl,clsAt_of I1.kIn c,he,hxe _ _ (raise_leaves hst hf hex I1 hn he hfree h)⟩
end RX
namespace My
open PySem L2
def top(i:Nat):Stmt:=PySem.Challenge.pw_tintties_k35_ways_refused.main.body.getD i (.Pass ⟨0,0,0,0⟩)
section
variable{P:Program}{w:World}{K:PySem.W.Frag}{mg:Str->Option Value}{base:Heap}
abbrev sDraw:Stmt:=top 49
def spDraw(K:PySem.W.Frag):Sp:=fun vs H Q _=>∃(a:Addr)(ns:List Int)(k:Int),vs=[.ref a,.int k]/\SqL K H a (ns.map V.int)/\ns.length<=63/\0<=k/\k<=1000000/\Q (.int (draw ns k)) H
theorem scDraw:FnScope ["_law_script","_law_k","_law_cell"] ["_law_script","_law_k"] (defScope sDraw):=⟨rfl,rfl,rfl,by decide+kernel,rfl,by decide+kernel,by decide+kernel⟩
theorem ok_draw{f:Addr}{fd:FuncData}(F:Fun K "_law_draw" "_law_draw" sDraw f fd)(T:Bi mg):FnOk P w K mg base CX0 1 f fd ["_law_script","_law_k"] (spDraw K):=by
 refine F.ok scDraw (fun vs H Q E h=>?_) (fun cdv A outer s H vs Q E hr h=>?_)
 ·obtain⟨a,ns,k,rfl,_⟩:=h
  rfl
 ·obtain⟨a,ns,k,rfl,hS,hl,k0,k1,q⟩:=h
  refine⟨_,pss_cons (ps_set (i:=2) scDraw.nd rfl (Or.inl rfl) (pe_op op_add (pe_op op_mul pe_int (pv 1)) pe_int))
   (pss_cons (ps_if (pt_cmpR op_gt (pe_callB call_len_seq (by rfl) T.len bLen (pa_c (pv 0) pa_nil)) pe_int (nomark _))
    (pss_one (ps_set (i:=2) scDraw.nd rfl (Or.inl rfl) (pe_op op_add (pe_op op_add (pe_op op_mod (pe_ix ix_list (pv 0) (pe_op op_mod (pv 1) (pe_callB call_len_seq (by rfl) T.len bLen (pa_c (pv 0) pa_nil))) (fun _ _=>rfl)) pe_int)
     (pe_op op_mul (pe_op op_fdiv (pv 1) (pe_callB call_len_seq (by rfl) T.len bLen (pa_c (pv 0) pa_nil))) pe_int)) pe_int))) pss_nil)
   (pss_cons (ps_set (i:=2) scDraw.nd rfl (Or.inl rfl) (pe_op op_mod (pe_op op_add (pe_op op_add (pe_op op_mul (pv 2) pe_int) (pe_op op_mul (pe_op op_mul (pv 1) (pv 1)) pe_int)) pe_int) pe_int))
   (pss_one (ps_ret (pe_op op_mod (pe_op op_mul (pv 2) (pv 2)) pe_int))))),?_⟩
  refine⟨_,rfl,_,_,rfl,rfl,.inl ⟨by decide,by decide⟩,_,_,rfl,rfl,?_⟩
  refine⟨_,rfl,a,_,rfl,.inl hS,_,_,rfl,rfl,_,rfl,?_⟩
  have last:∀c:Int,c=(if ns.length>0 then ns.getD (k%(ns.length:Int)).toNat 0%2147483629+k/(ns.length:Int)*7349+1 else 2*k+1)->
    (tSeq (tAsg (tOp (rI (fun _ j=>0<j) fun i j=> .int (i%j)) (tOp (rI0 fun i j=> .int (i+j)) (tOp (rI0 fun i j=> .int (i+j)) (tOp (rI CMul fun i j=> .int (i*j)) (tVar 2) (tC (.int 48271))) (tOp (rI CMul fun i j=> .int (i*j)) (tOp (rI CMul fun i j=> .int (i*j)) (tVar 1) (tVar 1)) (tC (.int 16807)))) (tC (.int 3))) (tC (.int 2147483647))) (gName 2))
     (tRet (tOp (rI (fun _ j=>0<j) fun i j=> .int (i%j)) (tOp (rI CMul fun i j=> .int (i*j)) (tVar 2) (tVar 2)) (tC (.int 2147483629))))) {nx:=fun _ H'=>Q .non H',rt:=Q} [some (.ref a),some (.int k),some (.int c)] H:=by
   intro c hc
   refine⟨_,rfl,_,_,rfl,rfl,.inr ⟨by decide,by decide⟩,_,rfl,_,rfl,_,_,rfl,rfl,.inl ⟨by omega,by omega⟩,_,_,rfl,rfl,.inr ⟨by decide,by decide⟩,_,_,rfl,rfl,_,_,rfl,rfl,_,_,rfl,rfl,(by show(0:Int)<2147483647;decide),?_⟩
   have b1:=mod_lo (n:=c*48271+k*k*16807+3) (p:=2147483647) (by decide)
   have b2:=mod_hi (n:=c*48271+k*k*16807+3) (p:=2147483647) (by decide)
   refine⟨_,rfl,_,rfl,_,_,rfl,rfl,.inl ⟨by omega,by omega⟩,_,_,rfl,rfl,(by show(0:Int)<2147483629;decide),?_⟩
   have e:(c*48271+k*k*16807+3)%2147483647*((c*48271+k*k*16807+3)%2147483647)%2147483629=draw ns k:=by
    rw[hc];rfl
   show Q (.int _) H
   rw[e]
   exact q
  refine ite2 (fun hc=>?_) (fun hc=>?_)
  ·have hp:0<ns.length:=by
    have:=of_decide_eq_true hc
    rw[List.length_map]at this
    omega
   have hp':(0:Int)<((ns.map V.int).length:Int):=by rw[List.length_map];omega
   have m1:=mod_lo (n:=k) hp'
   have m2:=mod_hi (n:=k) hp'
   rw[List.length_map]at m2
   have ix:L2.atI (ns.map V.int) (k%((ns.map V.int).length:Int))=some (V.int (ns.getD (k%(ns.length:Int)).toNat 0)):=by
    have e0:k%((ns.map V.int).length:Int)=(((k%(ns.length:Int)).toNat:Nat):Int):=by
     rw[List.length_map]at m1⊢
     omega
    rw[e0]
    refine atI_nat ?_
    have hlt:(k%(ns.length:Int)).toNat<ns.length:=by
     rw[List.length_map]at m1
     omega
    rw[List.getElem?_map,List.getD_eq_getElem?_getD,List.getElem?_eq_getElem hlt]
    rfl
   refine⟨_,rfl,_,rfl,_,rfl,a,_,rfl,.inl hS,_,_,rfl,rfl,hp',a,_,_,_,rfl,rfl,hS,ix,_,_,rfl,rfl,(by show(0:Int)<2147483629;decide),_,rfl,_,rfl,a,_,rfl,.inl hS,_,_,rfl,rfl,⟨hp',by rw[List.length_map];omega⟩,_,_,rfl,rfl,.inr ⟨by decide,by decide⟩,_,_,rfl,rfl,_,_,rfl,rfl,?_⟩
   refine last _ ?_
   rw[if_pos hp,List.length_map]
  ·have hp:¬ns.length>0:=by
    intro z
    refine hc (decide_eq_true ?_)
    rw[List.length_map]
    omega
   refine last _ ?_
   rw[if_neg hp]
abbrev sTie:Stmt:=top 50
abbrev nTie:List Str:=["_law_number","_law_k","_law_points","_law_kind","_law_one","_law_other"]
def spTie:Sp:=fun vs H Q _=>∃n k p kd:Int,vs=[.int n,.int k,.int p,.int kd]/\0<=n/\0<=k/\2<=p/\p<=60/\
 ∀(i j:Int)(t:Addr)(H':Hp),0<=i->i<p->0<=j->j<p->i≠j->Same H H'->H' t=some (.tup [.int i,.int j])->Q (.ref t) H'
theorem scTie:FnScope nTie ["_law_number","_law_k","_law_points","_law_kind"] (defScope sTie):=⟨rfl,rfl,rfl,by decide+kernel,rfl,by decide+kernel,by decide+kernel⟩
theorem ok_tie{f:Addr}{fd:FuncData}(F:Fun K "_law_tie" "_law_tie" sTie f fd):FnOk P w K mg base CX0 1 f fd ["_law_number","_law_k","_law_points","_law_kind"] spTie:=by
 refine F.ok scTie (fun vs H Q E h=>?_) (fun cdv A outer s H vs Q E hr h=>?_)
 ·obtain⟨n,k,p,kd,rfl,_⟩:=h
  rfl
 ·obtain⟨n,k,p,kd,rfl,n0,k0,p2,p60,q⟩:=h
  obtain⟨t5,h5,r5⟩:∃t,PSs (cxOf CX0 P w K mg base nTie "_law_tie" (defScope sTie) f cdv A outer s H E).nox ((defBody sTie).drop 5) t/\∀i j:Int,0<=i->i<p->0<=j->j<p->i≠j->
    t {nx:=fun _ H'=>Q .non H',rt:=Q} [some (.int n),some (.int k),some (.int p),some (.int kd),some (.int i),some (.int j)] H:=by
   refine⟨_,pss_cons (ps_if (pt_cmpR op_eq (pe_op op_mod (pe_op op_fdiv (pv 0) pe_int) pe_int) pe_int (nomark _)) (pss_one (ps_ret (pe_tupS (pa_c (pv 5) (pa_c (pv 4) pa_nil))))) pss_nil) (pss_one (ps_ret (pe_tupS (pa_c (pv 4) (pa_c (pv 5) pa_nil))))),fun i j i0 i1 j0 j1 ne=>?_⟩
   refine⟨_,rfl,_,_,rfl,rfl,⟨by decide,by decide⟩,_,_,rfl,rfl,(by show(0:Int)<2;decide),rfl,_,rfl,?_⟩
   refine ite2 (fun _=>?_) (fun _=>?_)
   ·exact⟨_,rfl,_,rfl,rfl,fun t H' s' ht=>q j i t H' j0 j1 i0 i1 (Ne.symm ne) s' ht⟩
   ·exact⟨_,rfl,_,rfl,rfl,fun t H' s' ht=>q i j t H' i0 i1 j0 j1 ne s' ht⟩
  have m1:=mod_lo (n:=n/64) (p:=p-1) (by omega)
  have m2:=mod_hi (n:=n/64) (p:=p-1) (by omega)
  obtain⟨t4,h4,r4⟩:∃t,PSs (cxOf CX0 P w K mg base nTie "_law_tie" (defScope sTie) f cdv A outer s H E).nox ((defBody sTie).drop 4) t/\∀i j:Int,0<=i->i<p->0<=j->j<p->i≠j->
    t {nx:=fun _ H'=>Q .non H',rt:=Q} [some (.int n),some (.int k),some (.int p),some (.int kd),some (.int i),some (.int j)] H:=by
   refine⟨_,pss_cons (ps_if (pt_cmpR op_eq (pv 3) pe_int (nomark _)) (pss_cons (ps_set (i:=4) scTie.nd rfl (Or.inl rfl) pe_int) (pss_one (ps_set (i:=5) scTie.nd rfl (Or.inl rfl) (pe_op op_add pe_int (pe_op op_mod (pe_op op_fdiv (pv 0) pe_int) (pe_op op_sub (pv 2) pe_int)))))) pss_nil) h5,fun i j i0 i1 j0 j1 ne=>?_⟩
   refine⟨_,rfl,rfl,_,rfl,?_⟩
   refine ite2 (fun _=>?_) (fun _=>?_)
   ·exact⟨_,rfl,_,_,rfl,rfl,⟨by decide,by decide⟩,_,rfl,_,_,rfl,rfl,_,_,rfl,rfl,(by show(0:Int)<p-1;omega),_,_,rfl,rfl,r5 0 _ (by omega) (by omega) (by omega) (by omega) (by omega)⟩
   ·exact r5 i j i0 i1 j0 j1 ne
  obtain⟨t3,h3,r3⟩:∃t,PSs (cxOf CX0 P w K mg base nTie "_law_tie" (defScope sTie) f cdv A outer s H E).nox ((defBody sTie).drop 3) t/\∀i j:Int,0<=i->i<p->0<=j->j<p->i≠j->
    t {nx:=fun _ H'=>Q .non H',rt:=Q} [some (.int n),some (.int k),some (.int p),some (.int kd),some (.int i),some (.int j)] H:=by
   refine⟨_,pss_cons (ps_if (PW.pt (pw_and (pt_cmpR op_eq (pv 3) pe_int (nomark _)) (pw_and1 (pt_cmpR op_lt (pv 1) (pv 2) (nomark _))))) (pss_cons (ps_set (i:=4) scTie.nd rfl (Or.inl rfl) (pv 1)) (pss_one (ps_set (i:=5) scTie.nd rfl (Or.inl rfl) (pe_op op_mod (pe_op op_add (pv 1) pe_int) (pv 2))))) pss_nil) h4,fun i j i0 i1 j0 j1 ne=>?_⟩
   refine⟨_,rfl,rfl,_,rfl,?_⟩
   refine ite2 (fun _=>?_) (fun _=>?_)
   ·refine⟨_,rfl,_,rfl,_,_,rfl,rfl,_,rfl,?_⟩
    refine ite2 (fun hz=>?_) (fun _=>?_)
    ·have hk:k<p:=of_decide_eq_true hz
     have e:k%p=k:=Int.emod_eq_of_lt k0 hk
     refine⟨_,rfl,?_⟩
     refine⟨_,rfl,_,_,rfl,rfl,_,rfl,_,_,rfl,rfl,(by show(0:Int)<p;omega),r4 k _ k0 hk (mod_lo (by omega)) (mod_hi (by omega)) (fun z=>next_ne (n:=k) p2 (by rw[<-z,e]))⟩
    ·exact r4 i j i0 i1 j0 j1 ne
   ·exact iteF (r4 i j i0 i1 j0 j1 ne)
  refine⟨_,pss_cons (ps_set (i:=4) scTie.nd rfl (Or.inl rfl) (pe_op op_mod (pv 0) (pv 2)))
   (pss_cons (ps_set (i:=5) scTie.nd rfl (Or.inl rfl) (pe_op op_mod (pe_op op_add (pe_op op_add (pv 4) pe_int) (pe_op op_mod (pe_op op_fdiv (pv 0) pe_int) (pe_op op_sub (pv 2) pe_int))) (pv 2)))
   (pss_cons (ps_if (pt_cmpR op_eq (pv 3) pe_int (nomark _)) (pss_cons (ps_set (i:=4) scTie.nd rfl (Or.inl rfl) (pe_op op_mod (pv 0) (pe_op op_fdiv (pv 2) pe_int)))
    (pss_one (ps_set (i:=5) scTie.nd rfl (Or.inl rfl) (pe_op op_add (pe_op op_fdiv (pv 2) pe_int) (pe_op op_mod (pe_op op_fdiv (pv 0) pe_int) (pe_op op_sub (pv 2) (pe_op op_fdiv (pv 2) pe_int))))))) pss_nil) h3)),?_⟩
  have a1:=mod_lo (n:=n) (p:=p) (by omega)
  have a2:=mod_hi (n:=n) (p:=p) (by omega)
  refine⟨_,rfl,_,rfl,_,_,rfl,rfl,(by show(0:Int)<p;omega),?_⟩
  refine⟨_,rfl,_,_,rfl,rfl,_,rfl,_,_,rfl,rfl,⟨by decide,by decide⟩,_,rfl,_,_,rfl,rfl,_,_,rfl,rfl,(by show(0:Int)<p-1;omega),_,_,rfl,rfl,_,rfl,_,_,rfl,rfl,(by show(0:Int)<p;omega),?_⟩
  have ne:n%p≠(n%p+1+n/64%(p-1))%p:=fun z=>by
   refine step_ne (a:=n%p) (d:=1+n/64%(p-1)) (p:=p) a1 a2 (by omega) (by omega) ?_
   rw[<-Int.add_assoc]
   exact z.symm
  refine⟨_,rfl,rfl,_,rfl,?_⟩
  refine ite2 (fun _=>?_) (fun _=>?_)
  ·have b1:=mod_lo (n:=n) (p:=p/2) (by omega)
   have b2:=mod_hi (n:=n) (p:=p/2) (by omega)
   have b3:=mod_lo (n:=n/64) (p:=p-p/2) (by omega)
   have b4:=mod_hi (n:=n/64) (p:=p-p/2) (by omega)
   refine⟨_,rfl,_,rfl,_,_,rfl,rfl,⟨by decide,by decide⟩,_,_,rfl,rfl,(by show(0:Int)<p/2;omega),?_⟩
   exact⟨_,rfl,_,_,rfl,rfl,⟨by decide,by decide⟩,_,rfl,_,_,rfl,rfl,⟨by decide,by decide⟩,_,rfl,_,rfl,_,_,rfl,rfl,⟨by decide,by decide⟩,_,_,rfl,rfl,_,_,rfl,rfl,(by show(0:Int)<p-p/2;omega),_,_,rfl,rfl,r3 _ _ (by omega) (by omega) (by omega) (by omega) (by omega)⟩
  ·exact r3 _ _ a1 a2 (mod_lo (by omega)) (mod_hi (by omega)) ne
end
end My
namespace L2
open PySem
section
variable{P:Program}{w:World}{K:PySem.W.Frag}{mg:Str->Option Value}{base:Heap}{k:Nat}{f:Addr}{fd:FuncData}{ps:List Str}{sp sp':Sp}
theorem FnOk.x(F:FnOk P w K mg base CX0 k f fd ps sp):FnOk P w K mg base (RX.CXe P w) k f fd ps sp:=by
 refine⟨F.len,fun A outer s H args us vs Q E hr e0 hb r h=>codeAny_mono (F.run A outer s H args us vs Q E hr e0 hb r h) fun rr s' hq=>?_⟩
 cases rr with
 |error e=>exact False.elim hq
 |ok fl=>cases fl<;>exact hq
end
end L2
namespace L2
open PySem PySem.Spec PyProof.Rows
theorem op_inK{X:Cx}{K:PySem.W.Frag}(hK:X.K=K):OpR X (compareOp .In) (rIn K false):=by
 subst hK
 exact op_in_seq
theorem pg_tupK{X:Cx}{K:PySem.W.Frag}{es:List Expr}{k:Nat}{t:TGs}{n:Nat}{pos:Pos}(hK:X.K=K)(hc:X.calm=true)(h:PGs X es t)(h1:(assignEach es X.env).length=n)(h2:(assignEach es X.env).findIdx? (·.1)=none):PG X (.Tuple es k pos) (gTup K n t):=by
 subst hK
 exact pg_tup hc h h1 h2
end L2
namespace My
open PySem L2
def compScope:Expr->Scope
 | .ListComp _ _ s _=>s
 | .Call _ [e] _ _=>compScope e
 | .Tuple [_,e] _ _=>compScope e
 | .BinOp _ _ e _=>compScope e
 | .Compare a _ _ _=>compScope a
 |_=>{kind:= .function,names:=[],isGenerator:=false,isCoroutine:=false}
def retE:Stmt->Expr
 | .Return (some e) _=>e
 | .Assign _ e _=>e
 |_=> .Constant .none 0 ⟨0,0,0,0⟩
def stOf(i k:Nat):Stmt:=(defBody (top i)).getD k (.Pass ⟨0,0,0,0⟩)
def bel(x:V)(n:Int):Bool:=match x with
 | .int i=>decide (0<=i)&&decide (i<n)
 |_=>false
def isNum:V->Bool
 | .int _=>true
 |_=>false
inductive Kn(H:Hp):V->Prop
 |non:Kn H .non
 |bl (b:Bool):Kn H (.bl b)
 |int (i:Int):Kn H (.int i)
 |str (s:Str):Kn H (.str s)
 |lst {a:Addr} {xs:List V}:H a=some (.lst xs)->Kn H (.ref a)
 |tup {a:Addr} {xs:List V}:H a=some (.tup xs)->Kn H (.ref a)
 |dK {a:Addr} {kvs:List (Key×V)}:H a=some (.dK kvs)->Kn H (.ref a)
theorem Kn.same{H H':Hp}{x:V}(h:Kn H x)(s:Same H H'):Kn H' x:=by
 cases h with
 |non=>exact .non
 |bl b=>exact .bl b
 |int i=>exact .int i
 |str s=>exact .str s
 |lst e=>exact .lst (s _ _ e)
 |tup e=>exact .tup (s _ _ e)
 |dK e=>exact .dK (s _ _ e)
theorem lv_map(L:Nat->Nat)(n:Nat):lv L n=((List.range n).map fun p:Nat=>(L p:Int)).map V.int:=by
 unfold lv
 rw[List.map_map]
 rfl
theorem rep_zero(es:List (Nat×Nat))(N:Nat):(List.replicate N ([.int 0]:List V)).flatten=lv (dg es 0) N:=by
 apply List.ext_getElem?
 intro i
 have hl:(List.replicate N ([.int 0]:List V)).flatten=List.replicate N (.int 0):=by
  induction N with
  |zero=>rfl
  |succ n ih=>rw[List.replicate_succ,List.flatten_cons,ih];rfl
 rw[hl]
 by_cases hi:i<N
 ·rw[lv_get _ hi,List.getElem?_replicate,if_pos hi]
  rfl
 ·rw[List.getElem?_eq_none (by rw[List.length_replicate];omega),List.getElem?_eq_none (by rw[lv_len];omega)]
theorem lv_congr{L L':Nat->Nat}(n:Nat)(h:∀p,L p=L' p):lv L n=lv L' n:=by rw[show L=L' from funext h]
theorem dg_two(es:List (Nat×Nat))(k:Nat)(h:(es.getD k (0,0)).1≠(es.getD k (0,0)).2)(p:Nat):
  put (put (dg es k) (es.getD k (0,0)).1 (dg es k (es.getD k (0,0)).1+1)) (es.getD k (0,0)).2 (put (dg es k) (es.getD k (0,0)).1 (dg es k (es.getD k (0,0)).1+1) (es.getD k (0,0)).2+1) p=dg es (k+1) p:=by
 rw[dg_succ]
 unfold put atB
 by_cases h1:p=(es.getD k (0,0)).1
 ·have h2:¬p=(es.getD k (0,0)).2:=fun z=>h (h1.symm.trans z)
  rw[if_neg h2,if_pos h1,<-h1]
  simp
 ·by_cases h2:p=(es.getD k (0,0)).2
  ·rw[if_pos h2,if_neg (fun z=>h z.symm),<-h2]
   simp
  ·rw[if_neg h2,if_neg h1,beq_eq_false_iff_ne.mpr h1,beq_eq_false_iff_ne.mpr h2]
   rfl
section
variable{P:Program}{w:World}{K:PySem.W.Frag}{mg:Str->Option Value}{base:Heap}
abbrev sNum:Stmt:=top 14
theorem scNum:FnScope ["thing"] ["thing"] (defScope sNum):=⟨rfl,rfl,rfl,by decide+kernel,rfl,by decide+kernel,by decide+kernel⟩
abbrev sBel:Stmt:=top 15
theorem scBel:FnScope ["thing","bound"] ["thing","bound"] (defScope sBel):=⟨rfl,rfl,rfl,by decide+kernel,rfl,by decide+kernel,by decide+kernel⟩
def spNum2:Sp:=fun vs H Q _=>∃x,vs=[x]/\Kn H x/\Q (.bl (isNum x)) H
theorem ok_num2{f:Addr}{fd:FuncData}(F:Fun K "is_number" "is_number" sNum f fd)(T:Bi mg):FnOk P w K mg base CX0 1 f fd ["thing"] spNum2:=by
 refine F.ok scNum (fun vs H Q E h=>?_) (fun cdv A outer s H vs Q E hr h=>?_)
 ·obtain⟨x,rfl,_⟩:=h
  rfl
 ·obtain⟨x,rfl,kn,q⟩:=h
  refine⟨_,pss_one (ps_ret (pe_and (pe_callB call_isinst rfl T.isi bIsi (pa_c (pv 0) (pa_c (pe_bltn (v:= .ty "int") rfl T.int bInt rfl) pa_nil)))
   (pe_one (pe_not (pe_callB call_isinst rfl T.isi bIsi (pa_c (pv 0) (pa_c (pe_bltn (v:= .ty "bool") rfl T.bool bBool rfl) pa_nil))))))),?_⟩
  cases kn with
  |non=>exact⟨_,rfl,_,_,_,_,rfl,.non,kit K "NoneType" "int" false (by decide+kernel),_,rfl,iteF q⟩
  |bl b=>exact⟨_,rfl,_,_,_,_,rfl,.bl b,kit K "bool" "int" true (by decide+kernel),_,rfl,iteT ⟨_,rfl,_,_,_,_,rfl,.bl b,kit K "bool" "bool" true (by decide+kernel),_,rfl,q⟩⟩
  |int i=>exact⟨_,rfl,_,_,_,_,rfl,.int i,kit K "int" "int" true (by decide+kernel),_,rfl,iteT ⟨_,rfl,_,_,_,_,rfl,.int i,kit K "int" "bool" false (by decide+kernel),_,rfl,q⟩⟩
  |str x=>exact⟨_,rfl,_,_,_,_,rfl,.str x,kit K "str" "int" false (by decide+kernel),_,rfl,iteF q⟩
  |lst e=>exact⟨_,rfl,_,_,_,_,rfl,.lst e,kit K "list" "int" false (by decide+kernel),_,rfl,iteF q⟩
  |tup e=>exact⟨_,rfl,_,_,_,_,rfl,.tup e,kit K "tuple" "int" false (by decide+kernel),_,rfl,iteF q⟩
  |dK e=>exact⟨_,rfl,_,_,_,_,rfl,.dK e,kit K "dict" "int" false (by decide+kernel),_,rfl,iteF q⟩
def spBel2:Sp:=fun vs H Q _=>∃x,∃n:Int,vs=[x,.int n]/\Kn H x/\Q (.bl (bel x n)) H
theorem ok_bel2{f:Addr}{fd:FuncData}(F:Fun K "is_below" "is_below" sBel f fd)(FN:FnE P w K mg base "is_number" ["thing"] 1 spNum2):FnOk P w K mg base CX0 2 f fd ["thing","bound"] spBel2:=by
 refine F.ok scBel (fun vs H Q E h=>?_) (fun cdv A outer s H vs Q E hr h=>?_)
 ·obtain⟨x,n,rfl,_⟩:=h
  rfl
 ·obtain⟨x,n,rfl,kn,q⟩:=h
  refine⟨_,pss_one (ps_ret (pe_and (pe_fc FN hr (pa_c (pv 0) pa_nil)) (pe_one (pe_chain op_le op_lt pe_int (pv 0) (pv 1))))),?_⟩
  refine⟨_,rfl,x,rfl,kn,_,rfl,?_⟩
  cases kn with
  |int i=>
   refine iteT ⟨_,rfl,_,_,rfl,rfl,_,rfl,?_⟩
   refine ite2 (fun z=>?_) (fun z=>?_)
   ·refine⟨_,rfl,_,_,rfl,rfl,?_⟩
    have e:bel (.int i) n=decide (i<n):=by
     show(decide (0<=i)&&decide (i<n))=_
     rw[decide_eq_true (of_decide_eq_true z),Bool.true_and]
    rw[e]at q
    exact q
   ·have e:bel (.int i) n=false:=by
     show(decide (0<=i)&&decide (i<n))=_
     rw[Bool.eq_false_iff.mpr z,Bool.false_and]
    rw[e]at q
    have e2:decide ((0:Int)<=i)=false:=Bool.eq_false_iff.mpr z
    first
     |exact q
     |(show Q (.bl (decide ((0:Int)<=i))) H;rw[e2];exact q)
  |non=>exact iteF q
  |bl b=>exact iteF q
  |str x=>exact iteF q
  |lst e=>exact iteF q
  |tup e=>exact iteF q
  |dK e=>exact iteF q
abbrev sMo:Stmt:=top 18
def spMo:Sp:=fun vs H Q _=>∃p n q ts es,vs=[.ref p]/\NetZ H p n q ts es/\∀H' M,Same H H'->IsMax (dl es n) M->Q (.int M) H'
theorem scMo:FnScope ["net","crowds","ends","point"] ["net"] (defScope sMo):=⟨rfl,rfl,rfl,by decide+kernel,rfl,by decide+kernel,by decide+kernel⟩
theorem ok_mo{f:Addr}{fd:FuncData}(F:Fun K "most_of" "most_of" sMo f fd)(T:Bi mg):FnOk P w K mg base CX0 1 f fd ["net"] spMo:=by
 refine F.ok scMo (fun vs H Q E h=>?_) (fun cdv A outer s H vs Q E hr h=>?_)
 ·obtain⟨p,n,q,ts,es,rfl,_⟩:=h
  rfl
 ·obtain⟨p,n,qa,ts,es,rfl,N,q⟩:=h
  refine⟨_,pss_cons (ps_set (i:=1) scMo.nd rfl (Or.inl rfl) (pe_op op_rep (pe_lst (pa_c pe_int pa_nil)) (pe_ix ix_tup (pv 0) pe_int (fun _ _=>rfl))))
   (pss_cons (ps_for PassesOwn.never rfl (pi_tup (pe_ix ix_tup (pv 0) pe_int (fun _ _=>rfl))) (pg_name (i:=2) scMo.nd rfl (Or.inl rfl))
    (pss_one (ps_for PassesOwn.never rfl (pi_tup (pv 2)) (pg_name (i:=3) scMo.nd rfl (Or.inl rfl)) (pss_one (ps_augS (pv 1) (pv 3) get_list pe_int ip_add set_listN)))))
   (pss_one (ps_ret (pe_maxD (d:=0) rfl (pv 1) pe_int rfl T.max rfl)))),?_⟩
  have h60:=N.n60
  refine⟨(by show 1<=sizeLine;decide),fun b hb=>?_⟩
  refine⟨_,rfl,p,_,_,_,rfl,rfl,SqT.of (by rw[upd_ne (ne_of_none N.e1 hb)];exact N.e1),rfl,b,(n:Int),_,rfl,rfl,upd_same,(by omega),(by omega),(by rw[sizeLine_eq];show 1*((n:Int)).toNat<=_;omega),fun D hD=>?_⟩
  have s1:Same H (upd (upd H b (.lst [.int 0])) D (.lst (List.replicate ((n:Int)).toNat ([.int 0]:List V)).flatten)):=Same.trans (same_new hb) (same_new hD)
  have hD0:H D=none:=(same_new hb).none hD
  rw[Int.toNat_natCast,rep_zero es]
  rw[Int.toNat_natCast,rep_zero es]at s1
  have step:∀(H2:Hp)(g:Nat->Nat)(k:Nat),k<n->Same H H2->H2 D=some (.lst (lv g n))->∀(Q':Hp->Prop),(∀H3,Same H H3->H3 D=some (.lst (lv (put g k (g k+1)) n))->Q' H3)->
    gGetL (.ref D) (.int (k:Int)) H2 fun x H3=>ipI (fun i j=>i+j) x (.int 1) H3 fun z H5=>rSetN (.ref D) (.int (k:Int)) z H5 Q':=by
   intro H2 g k hk s2 hg Q' q'
   refine⟨D,_,k,.int (g k:Int),rfl,rfl,hg,lv_get _ hk,(g k:Int),1,rfl,rfl,D,_,k,rfl,rfl,hg,by rw[lv_len];exact hk,q' _ (s2.wr hD0) ?_⟩
   rw[upd_same,<-lv_set]
   rfl
  refine⟨_,rfl,p,_,_,_,rfl,rfl,SqT.of (s1 _ _ N.e1),rfl,qa,rfl,⟨_,SqT.of (s1 _ _ N.e2)⟩,for_tup (K:=K) (a:=qa) (xs:=ts) (fun i σ H'=>(∃v2 v3,σ=[some (.ref p),some (.ref D),v2,v3])/\Same H H'/\H' D=some (.lst (lv (dg es i) n))) ⟨⟨_,_,rfl⟩,s1,upd_same⟩ (fun i σ H' _ z=>SqT.of (z.2.1 _ _ N.e2)) (fun i x σ H' hx⟨⟨v2,v3,e⟩,sH,hc⟩=>?_) (fun σ H'⟨⟨v2,v3,z1⟩,z2,z3⟩=>?_)⟩
  ·subst e
   obtain⟨a,rfl,ha⟩:=N.tie i x hx
   have hlt:i<es.length:=by rw[<-N.len];exact(List.getElem?_eq_some_iff.mp hx).1
   obtain⟨a1,b1,ab⟩:=N.ok _ (getD_mem hlt)
   have tw:=dg_two es i ab
   generalize hA:(es.getD i (0,0)).1=A1 at*
   generalize hB:(es.getD i (0,0)).2=B1 at*
   refine⟨_,rfl,a,rfl,⟨_,SqT.of (sH _ _ ha)⟩,for_tup (K:=K) (a:=a) (xs:=[.int (A1:Int),.int (B1:Int)]) (fun j σ H2=>(∃v3,σ=[some (.ref p),some (.ref D),some (.ref a),v3])/\Same H H2/\H2 D=some (.lst (lv (if j=0 then dg es i else if j=1 then put (dg es i) A1 (dg es i A1+1)else put (put (dg es i) A1 (dg es i A1+1)) B1 (put (dg es i) A1 (dg es i A1+1) B1+1)) n))) ⟨⟨v3,rfl⟩,sH,hc⟩ (fun j σ H2 _ z=>SqT.of (z.2.1 _ _ ha)) (fun j y σ H2 hy⟨⟨v3,e3⟩,s2,h2⟩=>?_) (fun σ H2⟨⟨v3,e3⟩,s2,h2⟩=>?_)⟩
   ·subst e3
    match j,hy with
    |0,hy=>
     cases hy
     exact⟨_,rfl,_,rfl,step H2 _ A1 a1 s2 h2 _ fun H3 s3 h3=>⟨⟨_,rfl⟩,s3,h3⟩⟩
    |1,hy=>
     cases hy
     exact⟨_,rfl,_,rfl,step H2 _ B1 b1 s2 h2 _ fun H3 s3 h3=>⟨⟨_,rfl⟩,s3,h3⟩⟩
   ·refine⟨⟨_,_,e3⟩,s2,?_⟩
    rw[h2,<-lv_congr n tw]
    rfl
  ·subst z1
   rw[show ts.length=es.length from N.len,lv_map]at z3
   refine⟨_,rfl,D,_,rfl,SqL.of z3,fun M hM=>q H' M z2 hM⟩
end
theorem in_at(p:Nat)(e:Nat×Nat):inV (.int (p:Int)) [.int (e.1:Int),.int (e.2:Int)]=true↔At e p:=by
 unfold inV At
 simp only[List.any_cons,List.any_nil,Bool.or_false,eqV,Bool.or_eq_true]
 constructor
 ·rintro(h|h)
  ·left;have:=eq_of_beq h;omega
  ·right;have:=eq_of_beq h;omega
 ·rintro(h|h)
  ·left;exact beq_iff_eq.mpr (by rw[h])
  ·right;exact beq_iff_eq.mpr (by rw[h])
section
variable{P:Program}{w:World}{K:PySem.W.Frag}{mg:Str->Option Value}{base:Heap}
abbrev sTa:Stmt:=top 20
abbrev taScope:Scope:=compScope (retE (stOf 20 0))
abbrev nTa:List Str:=["net","tints","point"]
def spTa(P:Program)(w:World):Sp:=fun vs H Q _=>∃(p r:Addr)(n:Nat)(q:Addr)(ts:List V)(es:List (Nat×Nat))(tl:List (Option Nat))(pt:Nat),vs=[.ref p,.ref r,.int (pt:Int)]/\NetZ H p n q ts es/\H r=some (.tup (tv tl))/\tl.length=es.length/\
 ∀H' d kvs,Same H H'->H' d=some (dnHO P w d kvs)->(∀t:Nat,(valV kvs (some (t:Int))).isSome=true↔Used es tl es.length pt t)->Q (.ref d) H'
theorem ndTa:(["ends","tint","point"]:List Str).Nodup:=by decide+kernel
theorem scTa:FnScope nTa ["net","tints","point"] (defScope sTa):=⟨rfl,rfl,rfl,by decide+kernel,rfl,by decide+kernel,by decide+kernel⟩
theorem blkTa{f:Addr}{cdv:Value}{A:Around}{outer:List Env}{s:Shared}{H:Hp}{E:XK}:
  Blk (cxOf CX0 P w K mg base nTa "tints_at" (defScope sTa) f cdv A outer s H E).nox taScope [("point",s.heap.objs.size+1)] ["ends","tint","point"] [none,none,some 2]:=by
 refine⟨rfl,rfl,by decide+kernel,by decide+kernel,fun p hp=>?_,fun y hy e=>?_,⟨rfl,rfl,rfl⟩,trivial⟩
 ·rw[List.mem_singleton.mp hp]
  rfl
 ·have hy':y∈[((PySem.Str.ofString ".0":Str),NameKind.local),(PySem.Str.ofString "ends",.local),(PySem.Str.ofString "tint",.local),(PySem.Str.ofString "point",.free)]:=hy
  simp only[List.mem_cons,List.not_mem_nil,or_false]at hy'
  rcases hy' with rfl|rfl|rfl|rfl<;>first|rfl|cases e
theorem ok_ta{f:Addr}{fd:FuncData}(F:Fun K "tints_at" "tints_at" sTa f fd)(T:Bi mg):FnOk P w K mg base CX0 1 f fd ["net","tints","point"] (spTa P w):=by
 refine F.ok scTa (fun vs H Q E h=>?_) (fun cdv A outer s H vs Q E hr h=>?_)
 ·obtain⟨p,r,n,q,ts,es,tl,pt,rfl,_⟩:=h
  rfl
 ·obtain⟨p,r,n,qa,ts,es,tl,pt,rfl,N,hR,htl,q⟩:=h
  refine⟨_,pss_one (ps_ret (pe_callTy (call_dictN hr) rfl T.dict bDict (pa_c (pe_lcZ blkTa rfl rfl T.zip (pa_c (pe_ix ix_tup (pv 0) pe_int (fun _ _=>rfl)) (pa_c (pv 1) pa_nil)) (monoA_cons (mono_ixT (mono_var 0) (mono_c _)) (monoA_cons (mono_var 1) monoA_nil)) rfl rfl
   (fun C fp s H=>pg_tupK (K:=K) (n:=2) rfl rfl (@pgs_cons _ _ _ _ _ (pg_name (i:=0) ndTa rfl (Or.inl rfl) (hf:=Or.inr rfl)) (@pgs_cons _ _ _ _ _ (pg_name (i:=1) ndTa rfl (Or.inl rfl) (hf:=Or.inr rfl)) pgs_nil rfl) rfl) rfl rfl)
   (fun C fp s H=>pts_one (pt_cmpR (op_inK rfl) (pv 2) (pv 0) rfl)) (fun C fp s H=>pe_tupS (pa_c (pv 1) (pa_c pe_bl pa_nil)))) pa_nil))),?_⟩
  have h200:=N.l200
  have hlen:=N.len
  refine⟨_,rfl,p,_,_,_,rfl,rfl,SqT.of N.e1,rfl,_,rfl,qa,r,ts,tv tl,rfl,SqT.of N.e2,SqT.of hR,(by rw[tv_len];omega),(by omega),
   fun i ys σ H'=>Same H H'/\ys.length<=i/\(∃ps:List (Option Int×V),ys.length=ps.length/\(∀(j:Nat) y pr,ys[j]?=some y->ps[j]?=some pr->∃b,y= .ref b/\H' b=some (.tup [nV pr.1,pr.2]))/\∀t:Nat,(∃pr∈ps,pr.1=some (t:Int))↔Used es tl i pt t)/\∃v0 v1,σ=[v0,v1,some (.int (pt:Int))],
   ⟨Same.refl H,Nat.le_refl _,⟨[],rfl,(fun j y pr z=>by rw[List.getElem?_nil]at z;cases z),fun t=>⟨(fun⟨pr,z,_⟩=>by cases z),fun z=>absurd z Used.zero⟩⟩,none,none,rfl⟩,
   fun i ys σ H' hi⟨sH,hl,_⟩=>⟨SqT.of (sH _ _ N.e2),SqT.of (sH _ _ hR),hl⟩,fun i x y ys σ H' hx hy⟨sH,hl,⟨ps,h1,h2,h3⟩,v0,v1,e⟩ TT H1 s1 hTT=>?_,fun ys σ H'⟨sH,hl,⟨ps,h1,h2,h3⟩,_⟩ l H2 s2 hl2=>?_⟩
  ·subst e
   have hi:i<ts.length:=(List.getElem?_eq_some_iff.mp hx).1
   obtain⟨o,ho,rfl⟩:=tv_inv hy
   obtain⟨a,rfl,ha⟩:=N.tie i x hx
   have sH1:=Same.trans sH s1
   refine⟨TT,_,rfl,SqT.of hTT,rfl,_,_,rfl,_,_,rfl,rfl,?_⟩
   refine⟨_,rfl,_,rfl,a,_,rfl,.inr (SqT.of (sH1 _ _ ha)),rfl,rfl,_,rfl,?_⟩
   refine ite2 (fun hh=>?_) (fun hh=>?_)
   ·have hat:=(in_at pt (es.getD i (0,0))).mp hh
    refine⟨_,rfl,rfl,fun u H3 s3 hu=>⟨Same.trans sH1 s3,by rw[List.length_append,List.length_singleton];omega,⟨ps++[(o.map fun t:Nat=>(t:Int),.bl true)],by rw[List.length_append,List.length_append,h1];rfl,fun j y pr z1 z2=>?_,fun t=>?_⟩,_,_,rfl⟩⟩
    ·by_cases hj:j<ys.length
     ·rw[List.getElem?_append_left hj]at z1
      rw[List.getElem?_append_left (by omega)]at z2
      obtain⟨b,e1,e2⟩:=h2 j y pr z1 z2
      exact⟨b,e1,s3 _ _ (s1 _ _ e2)⟩
     ·rw[List.getElem?_append_right (by omega)]at z1
      rw[List.getElem?_append_right (by omega),<-h1]at z2
      have hj0:j-ys.length=0:=by
       cases hz:j-ys.length with
       |zero=>rfl
       |succ m=>rw[hz]at z1;cases z1
      rw[hj0]at z1 z2
      cases z1
      cases z2
      exact⟨u,rfl,by rw[hu,tN_nV]⟩
    ·rw[Used.succ,<-h3 t,ho]
     constructor
     ·rintro⟨pr,hp,e⟩
      rcases List.mem_append.mp hp with z|z
      ·exact .inl ⟨pr,z,e⟩
      ·rw[List.mem_singleton]at z
       subst z
       right
       cases o with
       |none=>cases e
       |some t'=>
        have:t'=t:=by have e':some (t':Int)=some (t:Int):=e;have:=Option.some.inj e';omega
        subst this
        exact⟨rfl,hat⟩
     ·rintro(⟨pr,hp,e⟩|⟨z,_⟩)
      ·exact⟨pr,List.mem_append_left _ hp,e⟩
      ·cases z
       exact⟨_,List.mem_append_right _ (List.mem_singleton.mpr rfl),rfl⟩
   ·have hat:¬At (es.getD i (0,0)) pt:=fun z=>hh ((in_at pt (es.getD i (0,0))).mpr z)
    refine⟨sH1,by omega,⟨ps,h1,fun j y pr z1 z2=>?_,fun t=>?_⟩,_,_,rfl⟩
    ·obtain⟨b,e1,e2⟩:=h2 j y pr z1 z2
     exact⟨b,e1,s1 _ _ e2⟩
    ·rw[h3 t,Used.succ]
     exact⟨.inl,fun z=>z.elim id fun⟨_,z⟩=>absurd z hat⟩
  ·refine⟨l,ys,ps,rfl,SqL.of hl2,h1,by omega,fun j y pr z1 z2=>?_,fun d H3 s3 hd=>q H3 d _ (Same.trans (Same.trans sH s2) s3) hd fun t=>?_⟩
   ·obtain⟨b,e1,e2⟩:=h2 j y pr z1 z2
    exact⟨b,e1,s2 _ _ e2⟩
   ·rw[fromPairs_in,h3 t,hlen]
end
noncomputable def frees(es:List (Nat×Nat))(tl:List (Option Nat))(pt m:Nat):List Nat:=(List.range m).filter fun t=>@decide (¬Used es tl es.length pt t) (Classical.propDecidable _)
theorem frees_succ_in{es:List (Nat×Nat)}{tl:List (Option Nat)}{pt m:Nat}(h:¬Used es tl es.length pt m):frees es tl pt (m+1)=frees es tl pt m++[m]:=by
 unfold frees
 rw[List.range_succ,List.filter_append,List.filter_cons,if_pos (@decide_eq_true _ (Classical.propDecidable _) h)]
 rfl
theorem frees_succ_out{es:List (Nat×Nat)}{tl:List (Option Nat)}{pt m:Nat}(h:Used es tl es.length pt m):frees es tl pt (m+1)=frees es tl pt m:=by
 unfold frees
 rw[List.range_succ,List.filter_append,List.filter_cons,if_neg (fun z=>absurd h (@of_decide_eq_true _ (Classical.propDecidable _) z))]
 simp
theorem frees_len(es:List (Nat×Nat))(tl:List (Option Nat))(pt m:Nat):(frees es tl pt m).length<=m:=by
 unfold frees
 exact Nat.le_trans (List.length_filter_le _ _) (by rw[List.length_range];exact Nat.le_refl _)
theorem nl_app(l:List Nat)(x:Nat):nl l++[V.int (x:Int)]=nl (l++[x]):=by unfold nl;rw[List.map_append];rfl
section
variable{P:Program}{w:World}{K:PySem.W.Frag}{mg:Str->Option Value}{base:Heap}
abbrev sFt:Stmt:=top 21
abbrev ftScope:Scope:=compScope (retE (stOf 21 1))
abbrev nFt:List Str:=["net","tints","point","many","taken"]
def spFt:Sp:=fun vs H Q _=>∃(p r:Addr)(n:Nat)(q:Addr)(ts:List V)(es:List (Nat×Nat))(tl:List (Option Nat))(pt m:Nat),vs=[.ref p,.ref r,.int (pt:Int),.int (m:Int)]/\NetZ H p n q ts es/\H r=some (.tup (tv tl))/\tl.length=es.length/\m<=1000/\
 ∀H' t,Same H H'->H' t=some (.tup (nl (frees es tl pt m)))->Q (.ref t) H'
theorem ndFt:(["tint","taken"]:List Str).Nodup:=by decide+kernel
theorem scFt:FnScope nFt ["net","tints","point","many"] (defScope sFt):=⟨rfl,rfl,rfl,by decide+kernel,rfl,by decide+kernel,by decide+kernel⟩
theorem blkFt{f:Addr}{cdv:Value}{A:Around}{outer:List Env}{s:Shared}{H:Hp}{E:XK}:
  Blk (cxOf CX0 P w K mg base nFt "free_tints" (defScope sFt) f cdv A outer s H E).nox ftScope [("taken",s.heap.objs.size+1)] ["tint","taken"] [none,some 4]:=by
 refine⟨rfl,rfl,by decide+kernel,by decide+kernel,fun p hp=>?_,fun y hy e=>?_,⟨rfl,rfl,rfl⟩,trivial⟩
 ·rw[List.mem_singleton.mp hp]
  rfl
 ·have hy':y∈[((PySem.Str.ofString ".0":Str),NameKind.local),(PySem.Str.ofString "tint",.local),(PySem.Str.ofString "taken",.free)]:=hy
  simp only[List.mem_cons,List.not_mem_nil,or_false]at hy'
  rcases hy' with rfl|rfl|rfl<;>first|rfl|cases e
theorem ok_ft{f:Addr}{fd:FuncData}(F:Fun K "free_tints" "free_tints" sFt f fd)(T:Bi mg)(FA:FnE P w K mg base "tints_at" ["net","tints","point"] 1 (spTa P w)):FnOk P w K mg base CX0 2 f fd ["net","tints","point","many"] spFt:=by
 refine F.ok scFt (fun vs H Q E h=>?_) (fun cdv A outer s H vs Q E hr h=>?_)
 ·obtain⟨p,r,n,q,ts,es,tl,pt,m,rfl,_⟩:=h
  rfl
 ·obtain⟨p,r,n,qa,ts,es,tl,pt,m,rfl,N,hR,htl,hm,q⟩:=h
  refine⟨_,pss_cons (ps_set (i:=4) scFt.nd rfl (Or.inr rfl) (pe_fc FA hr (pa_c (pv 0) (pa_c (pv 1) (pa_c (pv 2) pa_nil)))))
   (pss_one (ps_ret (pe_callTy call_tuple_ofS rfl T.tuple bTuple (pa_c (pe_lcR blkFt rfl rfl T.range (pa_c (pv 3) pa_nil) (monoA_cons (mono_var 3) monoA_nil) rfl (fun C fp s H=>pg_name (i:=0) ndFt rfl (Or.inl rfl))
    (fun C fp s H=>pts_one (pt_cmp (pc_dnotinNK (P:=P) (w:=w) rfl rfl (pv 0) (pv 1)))) (fun C fp s H=>pv 0)) pa_nil)))),?_⟩
  refine⟨_,rfl,_,rfl,_,rfl,p,r,n,qa,ts,es,tl,pt,rfl,N,hR,htl,fun H1 d kvs s1 hd hkv=>?_⟩
  refine⟨_,rfl,m,rfl,by omega,fun i ys σ H'=>Same H1 H'/\ys=nl (frees es tl pt i)/\∃v0,σ=[v0,some (.ref d)],⟨Same.refl _,rfl,none,rfl⟩,fun i ys σ H' hi⟨_,e,_⟩=>by subst e;rw[nl_len];exact frees_len _ _ _ _,fun i ys σ H' hi⟨sH,e1,v0,e⟩=>?_,fun ys σ H'⟨sH,e1,_⟩ l H2 s2 hl=>?_⟩
  ·subst e1 e
   refine⟨_,rfl,_,rfl,d,kvs,some (0+(i:Int)),rfl,rfl,sH _ _ hd,_,rfl,?_⟩
   rw[Int.zero_add]
   refine ite2 (fun hz=>?_) (fun hz=>?_)
   ·have hu:¬Used es tl es.length pt i:=fun z=>by rw[(hkv i).mpr z]at hz;cases hz
    exact⟨_,rfl,sH,by rw[frees_succ_in hu,<-nl_app],_,rfl⟩
   ·have hu:Used es tl es.length pt i:=(hkv i).mp (by
     cases z:(valV kvs (some (i:Int))).isSome with
     |true=>rfl
     |false=>rw[z]at hz;exact absurd rfl hz)
    exact⟨sH,by rw[frees_succ_out hu],_,rfl⟩
  ·subst e1
   exact⟨l,_,rfl,.inl hl,fun t H3 s3 ht=>q H3 t (Same.trans (Same.trans (Same.trans s1 sH) s2) s3) ht⟩
abbrev sFb:Stmt:=top 22
abbrev fbScope:Scope:=compScope (retE (stOf 22 1))
abbrev nFb:List Str:=["net","tints","one","other","many","taken"]
end
theorem mono_call{sp:Sp}{t:TA}(hs:∀vs H Q Q' E,(∀v H',Q v H'->Q' v H')->sp vs H Q E->sp vs H Q' E) (h:MonoA t):MonoE (tCall sp [] E0 t):=fun σ H Q Q' k q=>h σ H _ _ (fun vs H1 q=>hs _ _ _ _ _ k q) q
theorem mono_ft:∀vs H Q Q' E,(∀v H',Q v H'->Q' v H')->spFt vs H Q E->spFt vs H Q' E:=fun vs H Q Q' E k⟨p,r,n,q,ts,es,tl,pt,m,e,N,h1,h2,h3,z⟩=>⟨p,r,n,q,ts,es,tl,pt,m,e,N,h1,h2,h3,fun H' t s ht=>k _ _ (z H' t s ht)⟩
noncomputable def unus(es:List (Nat×Nat))(tl:List (Option Nat))(pt:Nat)(l:List Nat):List Nat:=l.filter fun t=>@decide (¬Used es tl es.length pt t) (Classical.propDecidable _)
theorem unus_mem{es:List (Nat×Nat)}{tl:List (Option Nat)}{pt t:Nat}{l:List Nat}:t∈unus es tl pt l↔t∈l/\¬Used es tl es.length pt t:=by
 unfold unus
 rw[List.mem_filter]
 exact⟨fun⟨a,b⟩=>⟨a,@of_decide_eq_true _ (Classical.propDecidable _) b⟩,fun⟨a,b⟩=>⟨a,@decide_eq_true _ (Classical.propDecidable _) b⟩⟩
theorem unus_in{es:List (Nat×Nat)}{tl:List (Option Nat)}{pt x i:Nat}{l:List Nat}(hx:l[i]?=some x)(h:¬Used es tl es.length pt x):unus es tl pt (l.take (i+1))=unus es tl pt (l.take i)++[x]:=by
 unfold unus
 rw[List.take_add_one,hx]
 show List.filter _ (l.take i++[x])=_
 rw[List.filter_append,List.filter_cons,if_pos (@decide_eq_true _ (Classical.propDecidable _) h)]
 rfl
theorem unus_out{es:List (Nat×Nat)}{tl:List (Option Nat)}{pt x i:Nat}{l:List Nat}(hx:l[i]?=some x)(h:Used es tl es.length pt x):unus es tl pt (l.take (i+1))=unus es tl pt (l.take i):=by
 unfold unus
 rw[List.take_add_one,hx]
 show List.filter _ (l.take i++[x])=_
 rw[List.filter_append,List.filter_cons,if_neg (fun z=>absurd h (@of_decide_eq_true _ (Classical.propDecidable _) z))]
 simp
theorem unus_len(es:List (Nat×Nat))(tl:List (Option Nat))(pt:Nat)(l:List Nat):(unus es tl pt l).length<=l.length:=List.length_filter_le _ _
theorem frees_mem{es:List (Nat×Nat)}{tl:List (Option Nat)}{pt t m:Nat}:t∈frees es tl pt m↔t<m/\¬Used es tl es.length pt t:=by
 show t∈unus es tl pt (List.range m)↔_
 rw[unus_mem,List.mem_range]
noncomputable def both(es:List (Nat×Nat))(tl:List (Option Nat))(a b m:Nat):List Nat:=unus es tl b (frees es tl a m)
theorem both_mem{es:List (Nat×Nat)}{tl:List (Option Nat)}{a b t m:Nat}:t∈both es tl a b m↔t<m/\¬Used es tl es.length a t/\¬Used es tl es.length b t:=by
 unfold both
 rw[unus_mem,frees_mem,and_assoc]
theorem nl_inv{l:List Nat}{i:Nat}{x:V}(h:(nl l)[i]?=some x):∃y:Nat,l[i]?=some y/\x= .int (y:Int):=by
 unfold nl at h
 rw[List.getElem?_map]at h
 cases e:l[i]? with
 |none=>rw[e]at h;cases h
 |some y=>rw[e]at h;cases h;exact⟨y,rfl,rfl⟩
section
variable{P:Program}{w:World}{K:PySem.W.Frag}{mg:Str->Option Value}{base:Heap}
def spFb:Sp:=fun vs H Q _=>∃(p r:Addr)(n:Nat)(q:Addr)(ts:List V)(es:List (Nat×Nat))(tl:List (Option Nat))(a b m:Nat),vs=[.ref p,.ref r,.int (a:Int),.int (b:Int),.int (m:Int)]/\NetZ H p n q ts es/\H r=some (.tup (tv tl))/\tl.length=es.length/\m<=1000/\
 ∀H' t,Same H H'->H' t=some (.tup (nl (both es tl a b m)))->Q (.ref t) H'
theorem ndFb:(["tint","taken"]:List Str).Nodup:=by decide+kernel
theorem scFb:FnScope nFb ["net","tints","one","other","many"] (defScope sFb):=⟨rfl,rfl,rfl,by decide+kernel,rfl,by decide+kernel,by decide+kernel⟩
theorem blkFb{f:Addr}{cdv:Value}{A:Around}{outer:List Env}{s:Shared}{H:Hp}{E:XK}:
  Blk (cxOf CX0 P w K mg base nFb "free_at_both" (defScope sFb) f cdv A outer s H E).nox fbScope [("taken",s.heap.objs.size+1)] ["tint","taken"] [none,some 5]:=by
 refine⟨rfl,rfl,by decide+kernel,by decide+kernel,fun p hp=>?_,fun y hy e=>?_,⟨rfl,rfl,rfl⟩,trivial⟩
 ·rw[List.mem_singleton.mp hp]
  rfl
 ·have hy':y∈[((PySem.Str.ofString ".0":Str),NameKind.local),(PySem.Str.ofString "tint",.local),(PySem.Str.ofString "taken",.free)]:=hy
  simp only[List.mem_cons,List.not_mem_nil,or_false]at hy'
  rcases hy' with rfl|rfl|rfl<;>first|rfl|cases e
theorem ok_fb{f:Addr}{fd:FuncData}(F:Fun K "free_at_both" "free_at_both" sFb f fd)(T:Bi mg)(FA:FnE P w K mg base "tints_at" ["net","tints","point"] 2 (spTa P w))(FF:FnE P w K mg base "free_tints" ["net","tints","point","many"] 2 spFt):FnOk P w K mg base CX0 3 f fd ["net","tints","one","other","many"] spFb:=by
 refine F.ok scFb (fun vs H Q E h=>?_) (fun cdv A outer s H vs Q E hr h=>?_)
 ·obtain⟨p,r,n,q,ts,es,tl,a,b,m,rfl,_⟩:=h
  rfl
 ·obtain⟨p,r,n,qa,ts,es,tl,a,b,m,rfl,N,hR,htl,hm,q⟩:=h
  refine⟨_,pss_cons (ps_set (i:=5) scFb.nd rfl (Or.inr rfl) (pe_fc FA hr (pa_c (pv 0) (pa_c (pv 1) (pa_c (pv 3) pa_nil)))))
   (pss_one (ps_ret (pe_callTy call_tuple_ofS rfl T.tuple bTuple (pa_c (pe_lcT blkFb rfl (pe_fc FF hr (pa_c (pv 0) (pa_c (pv 1) (pa_c (pv 2) (pa_c (pv 4) pa_nil))))) (mono_call mono_ft (monoA_cons (mono_var 0) (monoA_cons (mono_var 1) (monoA_cons (mono_var 2) (monoA_cons (mono_var 4) monoA_nil)))))
    (fun C fp s H=>pg_name (i:=0) ndFb rfl (Or.inl rfl)) (fun C fp s H=>pts_one (pt_cmp (pc_dnotinNK (P:=P) (w:=w) rfl rfl (pv 0) (pv 1)))) (fun C fp s H=>pv 0)) pa_nil)))),?_⟩
  refine⟨_,rfl,_,rfl,_,rfl,p,r,n,qa,ts,es,tl,b,rfl,N,hR,htl,fun H1 d kvs s1 hd hkv=>?_⟩
  refine⟨_,rfl,_,rfl,_,rfl,_,rfl,p,r,n,qa,ts,es,tl,a,m,rfl,N.same s1,s1 _ _ hR,htl,hm,fun H2 t s2 ht=>?_⟩
  have hfl:=frees_len es tl a m
  refine⟨t,_,rfl,SqT.of ht,(by rw[nl_len];omega),fun i ys σ H'=>Same H2 H'/\ys=nl (unus es tl b ((frees es tl a m).take i))/\∃v0,σ=[v0,some (.ref d)],⟨Same.refl _,rfl,none,rfl⟩,fun i ys σ H' hi⟨sH,e,_⟩=>⟨SqT.of (sH _ _ ht),?_⟩,fun i x ys σ H' hx⟨sH,e1,v0,e⟩=>?_,fun ys σ H'⟨sH,e1,_⟩ l H3 s3 hl=>?_⟩
  ·subst e
   rw[nl_len]
   refine Nat.le_trans (unus_len _ _ _ _) ?_
   rw[List.length_take]
   omega
  ·subst e1 e
   obtain⟨y,hy,rfl⟩:=nl_inv hx
   refine⟨_,rfl,_,rfl,d,kvs,some (y:Int),rfl,rfl,sH _ _ (s2 _ _ hd),_,rfl,?_⟩
   refine ite2 (fun hz=>?_) (fun hz=>?_)
   ·have hu:¬Used es tl es.length b y:=fun z=>by rw[(hkv y).mpr z]at hz;cases hz
    exact⟨_,rfl,sH,by rw[unus_in hy hu,<-nl_app],_,rfl⟩
   ·have hu:Used es tl es.length b y:=(hkv y).mp (by
     cases z:(valV kvs (some (y:Int))).isSome with
     |true=>rfl
     |false=>rw[z]at hz;exact absurd rfl hz)
    exact⟨sH,by rw[unus_out hy hu],_,rfl⟩
  ·subst e1
   rw[nl_len,List.take_length]at hl
   exact⟨l,_,rfl,.inl hl,fun t' H4 s4 ht'=>q H4 t' (Same.trans (Same.trans (Same.trans (Same.trans s1 s2) sH) s3) s4) ht'⟩
abbrev sNet:Stmt:=top 51
abbrev netScope:Scope:=compScope (retE (stOf 51 4))
abbrev nNet:List Str:=["_law_script","_law_at","_law_points","_law_kind","_law_many"]
abbrev nNetB:List Str:=["_law_k","_law_at","_law_kind","_law_points","_law_script"]
def spNet(K:PySem.W.Frag):Sp:=fun vs H Q _=>∃(a:Addr)(ns:List Int)(at':Int),vs=[.ref a,.int at']/\SqL K H a (ns.map V.int)/\ns.length<=63/\0<=at'/\at'<=1000/\
 ∀(H':Hp)(p:Addr)(n:Nat)(q:Addr)(ts:List V)(es:List (Nat×Nat)),Same H H'->NetZ H' p n q ts es->2<=n->n<=7->1<=es.length->es.length<=12->Q (.ref p) H'
theorem ndNet:nNetB.Nodup:=by decide+kernel
theorem scNet:FnScope nNet ["_law_script","_law_at"] (defScope sNet):=⟨rfl,rfl,rfl,by decide+kernel,rfl,by decide+kernel,by decide+kernel⟩
theorem blkNet{f:Addr}{cdv:Value}{A:Around}{outer:List Env}{s:Shared}{H:Hp}{E:XK}:
  Blk (cxOf CX0 P w K mg base nNet "_law_net" (defScope sNet) f cdv A outer s H E).nox netScope [("_law_script",s.heap.objs.size+1),("_law_points",s.heap.objs.size+3),("_law_kind",s.heap.objs.size+4),("_law_at",s.heap.objs.size+2)]
   nNetB [none,some 1,some 3,some 2,some 0]:=by
 refine⟨rfl,rfl,by decide+kernel,by decide+kernel,fun p hp=>?_,fun y hy e=>?_,⟨rfl,rfl,rfl⟩,⟨rfl,rfl,rfl⟩,⟨rfl,rfl,rfl⟩,⟨rfl,rfl,rfl⟩,trivial⟩
 ·simp only[List.mem_cons,List.not_mem_nil,or_false]at hp
  rcases hp with rfl|rfl|rfl|rfl<;>rfl
 ·have hy':y∈[((PySem.Str.ofString ".0":Str),NameKind.local),(PySem.Str.ofString "_law_k",.local),(PySem.Str.ofString "_law_tie",.globalImplicit),(PySem.Str.ofString "_law_draw",.globalImplicit),(PySem.Str.ofString "_law_at",.free),(PySem.Str.ofString "_law_kind",.free),(PySem.Str.ofString "_law_points",.free),(PySem.Str.ofString "_law_script",.free)]:=hy
  simp only[List.mem_cons,List.not_mem_nil,or_false]at hy'
  rcases hy' with rfl|rfl|rfl|rfl|rfl|rfl|rfl|rfl<;>first|rfl|cases e
theorem ok_net{f:Addr}{fd:FuncData}(F:Fun K "_law_net" "_law_net" sNet f fd)(T:Bi mg)(FD:FnE P w K mg base "_law_draw" ["_law_script","_law_k"] 1 (spDraw K))(FT:FnE P w K mg base "_law_tie" ["_law_number","_law_k","_law_points","_law_kind"] 1 spTie):FnOk P w K mg base CX0 2 f fd ["_law_script","_law_at"] (spNet K):=by
 refine F.ok scNet (fun vs H Q E h=>?_) (fun cdv A outer s H vs Q E hr h=>?_)
 ·obtain⟨a,ns,at',rfl,_⟩:=h
  rfl
 ·obtain⟨a,ns,at',rfl,hS,hl,t0,t1,q⟩:=h
  obtain⟨t3,h3,r3⟩:∃t,PSs (cxOf CX0 P w K mg base nNet "_law_net" (defScope sNet) f cdv A outer s H E).nox ((defBody sNet).drop 3) t/\∀pt kd:Int,2<=pt->pt<=7->
    t {nx:=fun _ H'=>Q .non H',rt:=Q} [some (.ref a),some (.int at'),some (.int pt),some (.int kd),none] H:=by
   refine⟨_,pss_cons (ps_set (i:=4) scNet.nd rfl (Or.inl rfl) (pe_op op_add pe_int (pe_op op_mod (pe_fc FD hr (pa_c (pv 0) (pa_c (pe_op op_add (pv 1) pe_int) pa_nil))) pe_int)))
    (pss_one (ps_ret (pe_tupS (pa_c (pv 2) (pa_c (pe_callTy call_tuple_ofS rfl T.tuple bTuple (pa_c (pe_lcR blkNet rfl rfl T.range (pa_c (pv 4) pa_nil) (monoA_cons (mono_var 4) monoA_nil) rfl (fun C fp s H=>pg_name (i:=0) ndNet rfl (Or.inl rfl)) (fun C fp s H=>pts_nil)
     (fun C fp s H=>pe_fc FT hr (pa_c (pe_fc FD hr (pa_c (pv 4) (pa_c (pe_op op_add (pe_op op_add (pv 1) pe_int) (pv 0)) pa_nil))) (pa_c (pv 0) (pa_c (pv 3) (pa_c (pv 2) pa_nil)))))) pa_nil)) pa_nil))))),fun pt kd p1 p9=>?_⟩
   refine⟨_,rfl,_,rfl,_,_,rfl,rfl,a,ns,_,rfl,hS,hl,by omega,by omega,_,_,rfl,rfl,(by show(0:Int)<12;decide),_,_,rfl,rfl,?_⟩
   have d1:=mod_lo (n:=draw ns (at'+2)) (p:=12) (by decide)
   have d2:=mod_hi (n:=draw ns (at'+2)) (p:=12) (by decide)
   obtain⟨mm,hmm⟩:∃m:Nat,1+draw ns (at'+2)%12=(m:Int):=⟨(1+draw ns (at'+2)%12).toNat,by omega⟩
   dsimp only[gName]
   rw[hmm]
   refine⟨_,rfl,_,rfl,mm,rfl,by omega,fun i ys σ H'=>Same H H'/\ys.length=i/\Ties H' pt ys/\∃v0,σ=[v0,some (.int at'),some (.int kd),some (.int pt),some (.ref a)],⟨Same.refl H,rfl,(fun t ht=>by cases ht),none,rfl⟩,fun i ys σ H' hi⟨_,e,_⟩=>by omega,fun i ys σ H' hi⟨s1,e1,hT,v0,e⟩=>?_,fun ys σ H'⟨s1,e1,hT,_⟩ l H2 s2 hl2=>?_⟩
   ·subst e
    dsimp only[gName,tTrue]
    refine iteT ⟨_,rfl,_,rfl,_,_,rfl,rfl,_,rfl,_,_,rfl,rfl,a,ns,_,rfl,s1.seq hS,hl,by omega,by omega,_,rfl,_,rfl,_,rfl,_,_,_,_,rfl,draw_nn _ _,by omega,by omega,by omega,fun x y t H3 x0 x1 y0 y1 ne s3 ht=>⟨Same.trans s1 s3,by rw[List.length_append,e1];rfl,fun u hu=>?_,_,rfl⟩⟩
    rcases List.mem_append.mp hu with z|z
    ·exact(hT u z).same s3
    ·rw[List.mem_singleton.mp z]
     exact⟨t,x,y,rfl,ht,x0,x1,y0,y1,ne⟩
   ·refine⟨l,_,rfl,.inl hl2,fun u H3 s3 hu=>⟨rfl,fun p H4 s4 hp=>?_⟩⟩
    have sA:Same H' H4:=Same.trans (Same.trans s2 s3) s4
    obtain⟨es,N⟩:=netZ_of (n:=pt) hp (s4 _ _ hu) (by omega) (hT.same sA) (by omega) (by omega) (Int.le_refl _)
    exact q H4 p _ u _ es (Same.trans s1 sA) N (by omega) (by omega) (by have:=N.len;omega) (by have:=N.len;omega)
  refine⟨_,pss_cons (ps_set (i:=2) scNet.nd rfl (Or.inr rfl) (pe_op op_add pe_int (pe_op op_mod (pe_fc FD hr (pa_c (pv 0) (pa_c (pv 1) pa_nil))) pe_int)))
   (pss_cons (ps_set (i:=3) scNet.nd rfl (Or.inr rfl) (pe_op op_mod (pe_fc FD hr (pa_c (pv 0) (pa_c (pe_op op_add (pv 1) pe_int) pa_nil))) pe_int))
   (pss_cons (ps_if (pt_cmpR op_eq (pv 3) pe_int (nomark _)) (pss_one (ps_set (i:=2) scNet.nd rfl (Or.inr rfl) (pe_op op_add pe_int (pe_op op_mod (pv 2) pe_int)))) pss_nil) h3)),?_⟩
  have d1:=mod_lo (n:=draw ns at') (p:=6) (by decide)
  have d2:=mod_hi (n:=draw ns at') (p:=6) (by decide)
  have d3:=mod_lo (n:=2+draw ns at'%6) (p:=3) (by decide)
  have d4:=mod_hi (n:=2+draw ns at'%6) (p:=3) (by decide)
  refine⟨_,rfl,_,rfl,a,ns,_,rfl,hS,hl,by omega,by omega,_,_,rfl,rfl,(by show(0:Int)<6;decide),_,_,rfl,rfl,?_⟩
  refine⟨_,rfl,_,rfl,_,_,rfl,rfl,a,ns,_,rfl,hS,hl,by omega,by omega,_,_,rfl,rfl,(by show(0:Int)<5;decide),?_⟩
  refine⟨_,rfl,rfl,_,rfl,?_⟩
  refine ite2 (fun _=>?_) (fun _=>?_)
  ·refine⟨_,rfl,_,_,rfl,rfl,(by show(0:Int)<3;decide),_,_,rfl,rfl,?_⟩
   exact r3 _ _ (by omega) (by omega)
  ·exact r3 _ _ (by omega) (by omega)
end
end My
namespace L2
open PySem PySem.Spec PyProof.Rows
structure MeE(P:Program)(w:World)(K:PySem.W.Frag)(mg:Str->Option Value)(base:Heap)(C:Addr)(m:Str)(ps:List Str)(k:Nat)(sp:Sp):Prop where
 ex:∃f fd,FnOk P w K mg base CX0 k f fd ps sp/\Meth K C m f/\Cls K C/\Binds K fd ps []
theorem MeE.mono{P:Program}{w:World}{K:PySem.W.Frag}{mg:Str->Option Value}{base:Heap}{C:Addr}{x:Str}{ps:List Str}{j k:Nat}{sp:Sp}(F:MeE P w K mg base C x ps j sp)(h:j<=k):MeE P w K mg base C x ps k sp:=
 let⟨f,fd,a,b⟩:=F.ex;⟨f,fd,a.mono h,b⟩
theorem pe_me{X:Cx}{C:Addr}{m:Str}{ps:List Str}{k:Nat}{sp:Sp}{o e:Expr}{es:List Expr}{ta:TE}{t:TA}{apos pos:Pos}{pl:Sem Bool}(F:MeE X.prog X.w X.K X.mg X.base C m ps k sp)(hr:Room k X.A)(he:PE X o ta)(ha:PA X (e::es) t)
  (h1:plainE e=true:=by rfl)(h2:es.all plainE=true:=by rfl)
  (ht:eval (.Call (.Attribute o m apos) (e::es) [] pos) X.env=(do
   let ov<-eval o X.env
   standAt apos.atName
   let(f,first)<-holding [ov] (getMethod ov m pl)
   callWith pos f first (backTo pos (starEach (e::es) X.env)) (backToKw pos (keywordEach [] X.env))):=by rfl):
  PE X (.Call (.Attribute o m apos) (e::es) [] pos) (tMeth C m sp [] E0 ta t):=
 let⟨_,_,a,b,c,d⟩:=F.ex;pe_meth (pl:=pl) he c b a hr d .nil pass0 ha (star_cons h1) (star_any h2) ht
end L2
namespace Sd
def put{α:Type}(f:Nat->α)(k:Nat)(v:α):Nat->α:=fun i=>if i=k then v else f i
theorem put_same{α:Type}(f:Nat->α)(k:Nat)(v:α):put f k v k=v:=by unfold put;rw[if_pos rfl]
theorem put_ne{α:Type}(f:Nat->α){k i:Nat}(v:α)(h:i≠k):put f k v i=f i:=by unfold put;rw[if_neg h]
def tint(d:Nat):Int:=((d%2:Nat):Int)
theorem tint_succ(d:Nat):tint (d+1)=1-tint d:=by unfold tint;omega
theorem tint_eq{a b:Nat}(h:tint a=tint b):a%2=b%2:=by unfold tint at h;omega
structure Shut(adjL:Nat->List Nat)(V0:Nat->Prop)(row:Nat->Option Int):Prop where
 vis:∀x,row x≠none↔V0 x
 cl:∀x,V0 x->∀y∈adjL x,V0 y/\row y≠row x
structure BF(adjL:Nat->List Nat)(V0:Nat->Prop)(row0:Nat->Option Int)(n root:Nat)(row:Nat->Option Int)(above:Nat->Option Nat)(wt:List Nat)(pl:Nat)(dep:Nat->Nat):Prop where
 sym:∀x y,y∈adjL x->x∈adjL y
 bnd:∀x y,y∈adjL x->y<n
 shut:Shut adjL V0 row0
 old:∀x,V0 x->row x=row0 x
 nd:wt.Nodup
 lt:∀x∈wt,x<n
 hd:wt[0]?=some root
 vis:∀x,row x≠none↔V0 x\/x∈wt
 disj:∀x∈wt,¬V0 x
 col:∀x∈wt,row x=some (tint (dep x))
 d0:dep root=0
 par:∀x∈wt,x≠root->∃y,y∈wt/\above x=some y/\x∈adjL y/\dep x=dep y+1
 mono:∀(i j x y:Nat),i<=j->wt[i]?=some x->wt[j]?=some y->dep x<=dep y
 near:∀(i x p:Nat),wt[pl]?=some p->wt[i]?=some x->dep x<=dep p+1
 done:∀(i x:Nat),i<pl->wt[i]?=some x->∀y∈adjL x,y∈wt/\row y≠row x/\dep y<=dep x+1
def Part(adjL:Nat->List Nat)(row:Nat->Option Int)(wt:List Nat)(dep:Nat->Nat)(p k:Nat):Prop:=∀y∈(adjL p).take k,y∈wt/\row y≠row p/\dep y<=dep p+1
section
variable{adjL:Nat->List Nat}{V0:Nat->Prop}{row0 row:Nat->Option Int}{n root:Nat}{above:Nat->Option Nat}{wt:List Nat}{pl:Nat}{dep:Nat->Nat}
theorem BF.start(sym:∀x y,y∈adjL x->x∈adjL y) (bnd:∀x y,y∈adjL x->y<n) (S:Shut adjL V0 row0) (hr:row0 root=none) (hn:root<n):BF adjL V0 row0 n root (put row0 root (some 0)) above [root] 0 (fun _=>0):=by
 have nv:¬V0 root:=fun h=>(S.vis root).mpr h hr
 refine⟨sym,bnd,S,fun x h=>put_ne _ _ (fun z=>nv (z▸h)),List.nodup_cons.mpr ⟨List.not_mem_nil,List.nodup_nil⟩,fun x h=>by rw[List.mem_singleton.mp h];exact hn,rfl,fun x=>?_,fun x h=>by rw[List.mem_singleton.mp h];exact nv,fun x h=>by rw[List.mem_singleton.mp h,put_same];rfl,rfl,fun x h z=>absurd (List.mem_singleton.mp h) z,fun _ _ _ _ _ _ _=>Nat.le_refl _,fun _ _ _ _ _=>Nat.zero_le _,fun i x h=>absurd h (Nat.not_lt_zero _)⟩
 by_cases e:x=root
 ·subst e
  rw[put_same]
  exact⟨fun _=> .inr (.head _),fun _ z=>by cases z⟩
 ·rw[put_ne _ _ e,S.vis x]
  exact⟨.inl,fun h=>h.elim id fun z=>absurd (List.mem_singleton.mp z) e⟩
theorem BF.known(B:BF adjL V0 row0 n root row above wt pl dep){p y:Nat}(hp:p∈wt)(hy:y∈adjL p)(h:row y≠none):y∈wt:=by
 rcases(B.vis y).mp h with z|z
 ·exact absurd (B.shut.cl y z p (B.sym p y hy)).1 (B.disj p hp)
 ·exact z
theorem BF.skip(B:BF adjL V0 row0 n root row above wt pl dep){p y:Nat}(hp:wt[pl]?=some p)(hy:y∈adjL p)(h:row y≠none)(hne:row y≠row p):y∈wt/\row y≠row p/\dep y<=dep p+1:=by
 have hw:=B.known (List.mem_of_getElem? hp) hy h
 obtain⟨i,hi,e⟩:=List.getElem_of_mem hw
 exact⟨hw,hne,B.near i y p hp (by rw[List.getElem?_eq_getElem hi,e])⟩
theorem BF.clash(B:BF adjL V0 row0 n root row above wt pl dep){p y:Nat}(hp:wt[pl]?=some p)(hy:y∈adjL p)(h:row y=row p):y∈wt/\dep y=dep p:=by
 have hpw:=List.mem_of_getElem? hp
 have hc:=B.col p hpw
 have hw:=B.known hpw hy (by rw[h,hc];intro z;cases z)
 refine⟨hw,?_⟩
 obtain⟨i,hi,e⟩:=List.getElem_of_mem hw
 have e':wt[i]?=some y:=by rw[List.getElem?_eq_getElem hi,e]
 have h1:=B.near i y p hp e'
 have hpar:dep y%2=dep p%2:=by
  rw[B.col y hw,hc]at h
  exact tint_eq (Option.some.inj h)
 by_cases hlt:i<pl
 ·exact absurd h.symm (B.done i y hlt e' p (B.sym p y hy)).2.1
 ·have h2:=B.mono pl i p y (by omega) hp e'
  omega
theorem BF.add(B:BF adjL V0 row0 n root row above wt pl dep){p y:Nat}(hp:wt[pl]?=some p)(hy:y∈adjL p)(h:row y=none):
  BF adjL V0 row0 n root (put row y (some (1-tint (dep p)))) (put above y (some p)) (wt++[y]) pl (put dep y (dep p+1)):=by
 have hpw:=List.mem_of_getElem? hp
 have hyw:y ∉ wt:=fun z=>(B.vis y).mpr (.inr z) h
 have hyv:¬V0 y:=fun z=>(B.vis y).mpr (.inl z) h
 have ne:∀x,x∈wt->x≠y:=fun x hx z=>hyw (z▸hx)
 have hr:root∈wt:=List.mem_of_getElem? B.hd
 have dx:∀x,x∈wt->put dep y (dep p+1) x=dep x:=fun x hx=>put_ne _ _ (ne x hx)
 have pll:pl<wt.length:=(List.getElem?_eq_some_iff.mp hp).1
 have get:∀(i x:Nat),(wt++[y])[i]?=some x->(i<wt.length/\wt[i]?=some x)\/(i=wt.length/\x=y):=fun i x e=>by
  by_cases hi:i<wt.length
  ·rw[List.getElem?_append_left hi]at e
   exact .inl ⟨hi,e⟩
  ·rw[List.getElem?_append_right (by omega)]at e
   have hl:=(List.getElem?_eq_some_iff.mp e).1
   rw[List.length_singleton]at hl
   have:i=wt.length:=by omega
   subst this
   rw[Nat.sub_self]at e
   cases e
   exact .inr ⟨rfl,rfl⟩
 have getp:∀q,(wt++[y])[pl]?=some q->q=p:=fun q e=>by
  rw[List.getElem?_append_left pll,hp]at e
  cases e
  rfl
 refine⟨B.sym,B.bnd,B.shut,fun x hx=>?_,?_,fun x hx=>?_,?_,fun x=>?_,fun x hx=>?_,fun x hx=>?_,?_,fun x hx hne=>?_,fun i j x z hij e1 e2=>?_,fun i x q e1 e2=>?_,fun i x hi e z hz=>?_⟩
 ·rw[put_ne _ _ (show x≠y from fun z=>hyv (by rw[<-z];exact hx))]
  exact B.old x hx
 ·rw[List.nodup_append]
  exact⟨B.nd,List.nodup_cons.mpr ⟨List.not_mem_nil,List.nodup_nil⟩,fun a ha b hb z=>ne a ha (z.trans (List.mem_singleton.mp hb))⟩
 ·rcases List.mem_append.mp hx with z|z
  ·exact B.lt x z
  ·rw[List.mem_singleton.mp z]
   exact B.bnd p y hy
 ·rw[List.getElem?_append_left (by omega)]
  exact B.hd
 ·by_cases e:x=y
  ·subst e
   rw[put_same]
   exact⟨fun _=> .inr (List.mem_append_right _ (.head _)),fun _ z=>by cases z⟩
  ·rw[put_ne _ _ e,B.vis x]
   refine⟨fun z=>z.imp id fun z=>List.mem_append_left _ z,fun z=>z.imp id fun z=>?_⟩
   rcases List.mem_append.mp z with z|z
   ·exact z
   ·exact absurd (List.mem_singleton.mp z) e
 ·rcases List.mem_append.mp hx with z|z
  ·exact B.disj x z
  ·rw[List.mem_singleton.mp z]
   exact hyv
 ·rcases List.mem_append.mp hx with z|z
  ·rw[put_ne _ _ (ne x z),dx x z]
   exact B.col x z
  ·rw[List.mem_singleton.mp z,put_same,put_same,tint_succ]
 ·rw[dx root hr]
  exact B.d0
 ·rcases List.mem_append.mp hx with z|z
  ·obtain⟨q,q1,q2,q3,q4⟩:=B.par x z hne
   exact⟨q,List.mem_append_left _ q1,by rw[put_ne _ _ (ne x z)];exact q2,q3,by rw[dx x z,dx q q1];exact q4⟩
  ·rw[List.mem_singleton.mp z]
   exact⟨p,List.mem_append_left _ hpw,put_same _ _ _,hy,by rw[put_same,dx p hpw]⟩
 ·rcases get i x e1 with⟨l1,f1⟩|⟨l1,f1⟩
  ·have hxw:=List.mem_of_getElem? f1
   rw[dx x hxw]
   rcases get j z e2 with⟨l2,f2⟩|⟨l2,f2⟩
   ·rw[dx z (List.mem_of_getElem? f2)]
    exact B.mono i j x z hij f1 f2
   ·rw[f2,put_same]
    exact B.near i x p hp f1
  ·rcases get j z e2 with⟨l2,f2⟩|⟨l2,f2⟩
   ·omega
   ·rw[f1,f2]
    exact Nat.le_refl _
 ·rw[getp q e1,dx p hpw]
  rcases get i x e2 with⟨l1,e2⟩|⟨l1,rfl⟩
  ·rw[dx x (List.mem_of_getElem? e2)]
   exact B.near i x p hp e2
  ·rw[put_same]
   exact Nat.le_refl _
 ·rcases get i x e with⟨l1,e⟩|⟨l1,_⟩
  ·have hxw:=List.mem_of_getElem? e
   obtain⟨h1,h2,h3⟩:=B.done i x hi e z hz
   refine⟨List.mem_append_left _ h1,?_,?_⟩
   ·rw[put_ne _ _ (ne z h1),put_ne _ _ (ne x hxw)]
    exact h2
   ·rw[dx z h1,dx x hxw]
    exact h3
  ·omega
theorem Part.add(B:BF adjL V0 row0 n root row above wt pl dep){p y k:Nat}(hp:wt[pl]?=some p)(hk:(adjL p)[k]?=some y)(h:row y=none)(A:Part adjL row wt dep p k):
  Part adjL (put row y (some (1-tint (dep p)))) (wt++[y]) (put dep y (dep p+1)) p (k+1):=by
 have hpw:=List.mem_of_getElem? hp
 have hyw:y ∉ wt:=fun z=>(B.vis y).mpr (.inr z) h
 have ne:∀x,x∈wt->x≠y:=fun x hx z=>hyw (z▸hx)
 intro z hz
 rw[List.take_add_one,hk]at hz
 rw[put_ne (i:=p) _ _ (ne p hpw),put_ne (i:=p) _ _ (ne p hpw)]
 rcases List.mem_append.mp hz with hz|hz
 ·obtain⟨h1,h2,h3⟩:=A z hz
  rw[put_ne _ _ (ne z h1),put_ne _ _ (ne z h1)]
  exact⟨List.mem_append_left _ h1,h2,h3⟩
 ·rw[List.mem_singleton.mp (show z∈[y]from hz),put_same,put_same]
  refine⟨List.mem_append_right _ (.head _),?_,Nat.le_refl _⟩
  rw[B.col p hpw]
  intro q
  have:=Option.some.inj q
  unfold tint at this
  omega
theorem Part.skip(B:BF adjL V0 row0 n root row above wt pl dep){p y k:Nat}(hp:wt[pl]?=some p)(hk:(adjL p)[k]?=some y)(h:row y≠none)(hne:row y≠row p)(A:Part adjL row wt dep p k):Part adjL row wt dep p (k+1):=by
 intro z hz
 rw[List.take_add_one,hk]at hz
 rcases List.mem_append.mp hz with hz|hz
 ·exact A z hz
 ·rw[List.mem_singleton.mp (show z∈[y]from hz)]
  exact B.skip hp (List.mem_of_getElem? hk) h hne
theorem BF.next(B:BF adjL V0 row0 n root row above wt pl dep){p:Nat}(hp:wt[pl]?=some p)(A:Part adjL row wt dep p (adjL p).length):BF adjL V0 row0 n root row above wt (pl+1) dep:=by
 refine{B with near:=fun i x q e1 e2=>?_,done:=fun i x hi e y hy=>?_}
 ·have h1:=B.near i x p hp e2
  have h2:=B.mono pl (pl+1) p q (by omega) hp e1
  omega
 ·by_cases h:i<pl
  ·exact B.done i x h e y hy
  ·have:i=pl:=by omega
   subst this
   rw[hp]at e
   cases e
   exact A y (by rw[List.take_length];exact hy)
theorem BF.finish(B:BF adjL V0 row0 n root row above wt pl dep)(hl:wt.length<=pl):Shut adjL (fun x=>V0 x\/x∈wt) row:=by
 refine⟨B.vis,fun x hx y hy=>?_⟩
 rcases hx with hx|hx
 ·obtain⟨h1,h2⟩:=B.shut.cl x hx y hy
  exact⟨.inl h1,by rw[B.old x hx,B.old y h1];exact h2⟩
 ·obtain⟨i,hi,e⟩:=List.getElem_of_mem hx
  obtain⟨h1,h2,_⟩:=B.done i x (by omega) (by rw[List.getElem?_eq_getElem hi,e]) y hy
  exact⟨.inr h1,h2⟩
theorem BF.zero(B:BF adjL V0 row0 n root row above wt pl dep){x:Nat}(hx:x∈wt)(h:dep x=0):x=root:=by
 by_cases e:x=root
 ·exact e
 ·obtain⟨y,_,_,_,h4⟩:=B.par x hx e
  omega
end
def it(par:Nat->Nat)(x:Nat):Nat->Nat
 |0=>x
 |i+1=>par (it par x i)
def parOf(above:Nat->Option Nat)(x:Nat):Nat:=(above x).getD 0
section
variable{adjL:Nat->List Nat}{V0:Nat->Prop}{row0 row:Nat->Option Int}{n root:Nat}{above:Nat->Option Nat}{wt:List Nat}{pl:Nat}{dep:Nat->Nat}
theorem BF.up(B:BF adjL V0 row0 n root row above wt pl dep){x:Nat}(hx:x∈wt):∀i,i<=dep x->it (parOf above) x i∈wt/\dep (it (parOf above) x i)+i=dep x
 |0,_=>⟨hx,rfl⟩
 |i+1,h=>by
  obtain⟨h1,h2⟩:=B.up hx i (by omega)
  have ne:it (parOf above) x i≠root:=fun z=>by rw[z,B.d0]at h2;omega
  obtain⟨y,y1,y2,y3,y4⟩:=B.par _ h1 ne
  have e:it (parOf above) x (i+1)=y:=by show(above (it (parOf above) x i)).getD 0=y;rw[y2];rfl
  rw[e]
  exact⟨y1,by omega⟩
theorem BF.upTie(B:BF adjL V0 row0 n root row above wt pl dep){x:Nat}(hx:x∈wt)(i:Nat)(h:i<dep x):above (it (parOf above) x i)=some (it (parOf above) x (i+1))/\it (parOf above) x i∈adjL (it (parOf above) x (i+1)):=by
 obtain⟨h1,h2⟩:=B.up hx i (by omega)
 have ne:it (parOf above) x i≠root:=fun z=>by rw[z,B.d0]at h2;omega
 obtain⟨y,y1,y2,y3,y4⟩:=B.par _ h1 ne
 have e:it (parOf above) x (i+1)=y:=by show(above (it (parOf above) x i)).getD 0=y;rw[y2];rfl
 rw[e]
 exact⟨y2,y3⟩
theorem BF.upEnd(B:BF adjL V0 row0 n root row above wt pl dep){x:Nat}(hx:x∈wt):it (parOf above) x (dep x)=root:=by
 obtain⟨h1,h2⟩:=B.up hx (dep x) (Nat.le_refl _)
 exact B.zero h1 (by omega)
def ring(par:Nat->Nat)(a b m:Nat):List Nat:=(List.range (m+1)).map (it par a)++((List.range m).map (it par b)).reverse
theorem ring_len(par:Nat->Nat)(a b m:Nat):(ring par a b m).length=2*m+1:=by
 unfold ring
 rw[List.length_append,List.length_map,List.length_range,List.length_reverse,List.length_map,List.length_range]
 omega
theorem ring_get(par:Nat->Nat)(a b m k:Nat)(h:k<2*m+1):(ring par a b m).getD k 0=if k<=m then it par a k else it par b (2*m-k):=by
 unfold ring
 rw[List.getD_eq_getElem?_getD]
 by_cases hk:k<=m
 ·rw[if_pos hk,List.getElem?_append_left (by rw[List.length_map,List.length_range];omega),List.getElem?_map,List.getElem?_range (by omega)]
  rfl
 ·rw[if_neg hk,List.getElem?_append_right (by rw[List.length_map,List.length_range];omega),List.getElem?_reverse (by rw[List.length_map,List.length_map,List.length_range,List.length_range];omega),List.getElem?_map,List.length_map,List.length_map,List.length_range,List.length_range,List.getElem?_range (by omega)]
  show it par b _=_
  congr 1
  omega
theorem BF.ring_ok(B:BF adjL V0 row0 n root row above wt pl dep){a b m:Nat}(ha:a∈wt)(hb:b∈wt)(hd:dep b=dep a)(hab:a≠b)(tie:b∈adjL a)(hm:m<=dep a)(meet:it (parOf above) a m=it (parOf above) b m)(first:∀i,i<m->it (parOf above) a i≠it (parOf above) b i):
  1<=m/\(∀x∈ring (parOf above) a b m,x<n)/\(ring (parOf above) a b m).Nodup/\∀k,k<2*m+1->(ring (parOf above) a b m).getD k 0∈adjL ((ring (parOf above) a b m).getD (if k=0 then 2*m else k-1) 0):=by
 have m1:1<=m:=by
  cases m with
  |zero=>exact absurd meet hab
  |succ m=>omega
 refine⟨m1,fun x hx=>?_,?_,fun k hk=>?_⟩
 ·rcases List.mem_append.mp hx with h|h
  ·obtain⟨i,hi,rfl⟩:=List.mem_map.mp h
   rw[List.mem_range]at hi
   exact B.lt _ (B.up ha i (by omega)).1
  ·rw[List.mem_reverse]at h
   obtain⟨i,hi,rfl⟩:=List.mem_map.mp h
   rw[List.mem_range]at hi
   exact B.lt _ (B.up hb i (by omega)).1
 ·unfold ring
  rw[List.nodup_append]
  refine⟨?_,?_,fun x hx y hy e=>?_⟩
  ·rw[List.Nodup,List.pairwise_map]
   refine List.Pairwise.imp_of_mem (fun{i j} hi hj h=>?_) (List.nodup_range (n:=m+1))
   rw[List.mem_range]at hi hj
   intro z
   have h1:=(B.up ha i (by omega)).2
   have h2:=(B.up ha j (by omega)).2
   rw[z]at h1
   exact h (by omega)
  ·rw[List.Nodup,List.pairwise_reverse,List.pairwise_map]
   refine List.Pairwise.imp_of_mem (fun{i j} hi hj h=>?_) (List.nodup_range (n:=m))
   rw[List.mem_range]at hi hj
   intro z
   have h1:=(B.up hb i (by omega)).2
   have h2:=(B.up hb j (by omega)).2
   rw[<-z]at h1
   exact h (by omega)
  ·obtain⟨i,hi,rfl⟩:=List.mem_map.mp hx
   rw[List.mem_reverse]at hy
   obtain⟨j,hj,rfl⟩:=List.mem_map.mp hy
   rw[List.mem_range]at hi hj
   have h1:=(B.up ha i (by omega)).2
   have h2:=(B.up hb j (by omega)).2
   rw[e]at h1
   have:i=j:=by omega
   subst this
   exact first i hj e
 ·rw[ring_get _ _ _ _ _ hk,ring_get _ _ _ _ _ (by split<;>omega)]
  by_cases h0:k=0
  ·subst h0
   rw[if_pos rfl,if_pos (Nat.zero_le _),if_neg (by omega),Nat.sub_self]
   exact B.sym _ _ tie
  ·rw[if_neg h0]
   by_cases h1:k<=m
   ·rw[if_pos h1,if_pos (by omega)]
    have h:=(B.upTie ha (k-1) (by omega)).2
    rw[show k-1+1=k by omega]at h
    exact B.sym _ _ h
   ·rw[if_neg h1]
    have h:=(B.upTie hb (2*m-k) (by omega)).2
    by_cases h2:k-1<=m
    ·rw[if_pos h2]
     have e:k-1=m:=by omega
     rw[e,meet]
     rw[show 2*m-k+1=m by omega]at h
     exact h
    ·rw[if_neg h2]
     rw[show 2*m-k+1=2*m-(k-1) by omega]at h
     exact h
end
def Conn(adjL:Nat->List Nat)(x y:Nat):Prop:=∀L:Nat->Nat,(∀u v,v∈adjL u->L u=L v)->L x=L y
structure Out(adjL:Nat->List Nat)(V:Nat->Prop)(row:Nat->Option Int)(rt:Nat->Nat)(r:Nat):Prop where
 shut:Shut adjL V row
 all:∀x,x<r->V x
 bit:∀x,V x->row x=some 0\/row x=some 1
 zero:∀x,V x->row (rt x)=some 0
 low:∀x,V x->rt x<=x
 conn:∀x,V x->Conn adjL x (rt x)
 next:∀x,V x->∀y∈adjL x,rt y=rt x
section
variable{adjL:Nat->List Nat}{V0:Nat->Prop}{row0 row:Nat->Option Int}{n root:Nat}{above:Nat->Option Nat}{wt:List Nat}{pl:Nat}{dep:Nat->Nat}{rt:Nat->Nat}
theorem Out.start:Out adjL (fun _=>False) (fun _=>none) (fun x=>x) 0:=
 ⟨⟨fun x=>⟨fun h=>h rfl,fun h=>h.elim⟩,fun x h=>h.elim⟩,fun x h=>absurd h (Nat.not_lt_zero _),fun x h=>h.elim,fun x h=>h.elim,fun x h=>h.elim,fun x h=>h.elim,fun x h=>h.elim⟩
theorem Out.skip(O:Out adjL V0 row rt root)(h:row root≠none):Out adjL V0 row rt (root+1):=by
 refine{O with all:=fun x hx=>?_}
 by_cases e:x=root
 ·rw[e]
  exact(O.shut.vis root).mp h
 ·exact O.all x (by omega)
theorem BF.conn(B:BF adjL V0 row0 n root row above wt pl dep){x:Nat}(hx:x∈wt):Conn adjL x root:=by
 intro L hL
 have h:∀i,i<=dep x->L x=L (it (parOf above) x i):=by
  intro i
  induction i with
  |zero=>intro _;rfl
  |succ i ih=>
   intro hi
   rw[ih (by omega)]
   exact(hL _ _ (B.upTie hx i (by omega)).2).symm
 rw[h (dep x) (Nat.le_refl _),B.upEnd hx]
theorem Out.walk(O:Out adjL V0 row0 rt root)(B:BF adjL V0 row0 n root row above wt pl dep)(hl:wt.length<=pl):∃rt',Out adjL (fun x=>V0 x\/x∈wt) row rt' (root+1):=by
 have hr:root∈wt:=List.mem_of_getElem? B.hd
 have nv:∀x,V0 x->x ∉ wt:=fun x h z=>B.disj x z h
 have S:=B.finish hl
 refine⟨fun x=>if x∈wt then root else rt x,S,fun x hx=>?_,fun x hx=>?_,fun x hx=>?_,fun x hx=>?_,fun x hx=>?_,fun x hx y hy=>?_⟩
 ·by_cases e:x=root
  ·rw[e];exact .inr hr
  ·exact .inl (O.all x (by omega))
 ·rcases hx with hx|hx
  ·rw[B.old x hx]
   exact O.bit x hx
  ·rw[B.col x hx]
   unfold tint
   have:dep x%2=0\/dep x%2=1:=by omega
   rcases this with h|h
   ·left;rw[h];rfl
   ·right;rw[h];rfl
 ·rcases hx with hx|hx
  ·skip
   rw[if_neg (nv x hx)]
   have h:=O.zero x hx
   have hv:V0 (rt x):=(O.shut.vis (rt x)).mp (by rw[h];intro z;cases z)
   rw[B.old _ hv]
   exact h
  ·skip
   rw[if_pos hx,B.col root hr,B.d0]
   rfl
 ·rcases hx with hx|hx
  ·skip
   rw[if_neg (nv x hx)]
   exact O.low x hx
  ·skip
   rw[if_pos hx]
   by_cases h:x<root
   ·exact absurd (O.all x h) (B.disj x hx)
   ·omega
 ·rcases hx with hx|hx
  ·skip
   rw[if_neg (nv x hx)]
   exact O.conn x hx
  ·skip
   rw[if_pos hx]
   exact B.conn hx
 ·rcases hx with hx|hx
  ·have hy':=(O.shut.cl x hx y hy).1
   rw[if_neg (nv x hx),if_neg (nv y hy')]
   exact O.next x hx y hy
  ·have hy':y∈wt:=B.known hx hy ((S.vis y).mpr ((S.cl x (.inr hx) y hy).1))
   rw[if_pos hx,if_pos hy']
end
structure Walked where
 clash:Option (Nat×Nat)
 row:Nat->Option Int
 above:Nat->Option Nat
def goN(p:Nat)(k:(Nat->Option Int)->(Nat->Option Nat)->List Nat->Walked):List Nat->(Nat->Option Int)->(Nat->Option Nat)->List Nat->Walked
 |[],r,a,w=>k r a w
 |y::ys,r,a,w=>if r y=none then goN p k ys (put r y (some (1-(r p).getD 0))) (put a y (some p)) (w++[y])else if r y=r p then⟨some (p,y),r,a⟩else goN p k ys r a w
def goW(adjL:Nat->List Nat):Nat->Nat->(Nat->Option Int)->(Nat->Option Nat)->List Nat->Walked
 |0,_,r,a,_=>⟨none,r,a⟩
 |f+1,pl,r,a,w=>match w[pl]? with
  |none=>⟨none,r,a⟩
  |some p=>goN p (goW adjL f (pl+1)) (adjL p) r a w
theorem goW_end(adjL:Nat->List Nat)(f pl:Nat)(r:Nat->Option Int)(a:Nat->Option Nat)(w:List Nat)(h:w.length<=pl):goW adjL f pl r a w=⟨none,r,a⟩:=by
 cases f with
 |zero=>rfl
 |succ f=>unfold goW;rw[List.getElem?_eq_none h]
theorem goW_step(adjL:Nat->List Nat)(f pl p:Nat)(r:Nat->Option Int)(a:Nat->Option Nat)(w:List Nat)(h:w[pl]?=some p):goW adjL (f+1) pl r a w=goN p (goW adjL f (pl+1)) (adjL p) r a w:=by
 show(match w[pl]? with|none=>(⟨none,r,a⟩:Walked)|some p=>goN p (goW adjL f (pl+1)) (adjL p) r a w)=_
 rw[h]
end Sd
namespace Sd
open PySem L2 My
theorem len_of_lt:∀(n:Nat)(l:List Nat),l.Nodup->(∀x∈l,x<n)->l.length<=n
 |0,l,_,h=>by
  cases l with
  |nil=>exact Nat.le_refl _
  |cons x l=>exact absurd (h x (.head _)) (Nat.not_lt_zero _)
 |n+1,l,nd,h=>by
  have h1:=len_of_lt n (l.erase n) (nd.erase n) fun x hx=>by
   have:=(List.Nodup.mem_erase_iff nd).mp hx
   have:=h x this.2
   omega
  by_cases hm:n∈l
  ·rw[List.length_erase_of_mem hm]at h1
   omega
  ·rw[List.erase_of_not_mem hm]at h1
   omega
def ov(f:Nat->Option Int)(i:Nat):V:=match f i with|none=> .non|some v=> .int v
def ol(f:Nat->Option Int)(n:Nat):List V:=(List.range n).map (ov f)
def up1(f:Nat->Option Nat)(i:Nat):Option Int:=(f i).map fun x:Nat=>(x:Int)
theorem ol_len(f:Nat->Option Int)(n:Nat):(ol f n).length=n:=by unfold ol;rw[List.length_map,List.length_range]
theorem ol_get(f:Nat->Option Int){n k:Nat}(h:k<n):(ol f n)[k]?=some (ov f k):=by
 unfold ol
 rw[List.getElem?_map,List.getElem?_range h]
 rfl
theorem ol_set(f:Nat->Option Int)(n k:Nat)(v:Int):(ol f n).set k (.int v)=ol (put f k (some v)) n:=by
 apply List.ext_getElem?
 intro i
 by_cases hi:i<n
 ·rw[ol_get _ hi,List.getElem?_set]
  unfold ov
  by_cases e:k=i
  ·subst e
   rw[if_pos rfl,if_pos (by rw[ol_len];exact hi),put_same]
  ·rw[if_neg e,ol_get _ hi,put_ne _ _ (fun z=>e z.symm)]
   rfl
 ·rw[List.getElem?_eq_none (by rw[List.length_set,ol_len];omega),List.getElem?_eq_none (by rw[ol_len];omega)]
theorem up1_put(f:Nat->Option Nat)(k p:Nat):up1 (put f k (some p))=put (up1 f) k (some (p:Int)):=by
 funext i
 unfold up1 put
 split<;>rfl
theorem ov_none{f:Nat->Option Int}{i:Nat}:ov f i= .non↔f i=none:=by
 unfold ov
 cases h:f i with
 |none=>simp
 |some v=>simp
def nl(l:List Nat):List V:=l.map fun x:Nat=>V.int (x:Int)
theorem nl_get{l:List Nat}{i x:Nat}(h:l[i]?=some x):(nl l)[i]?=some (.int (x:Int)):=by unfold nl;rw[List.getElem?_map,h];rfl
theorem nl_len(l:List Nat):(nl l).length=l.length:=by unfold nl;rw[List.length_map]
structure TiedAt(H:Hp)(Ta:Addr)(tl:List Addr)(adjL:Nat->List Nat)(n:Nat):Prop where
 top:H Ta=some (.lst (tl.map V.ref))
 len:tl.length=n
 row:∀(i:Nat) a,tl[i]?=some a->H a=some (.lst (nl (adjL i)))
def Sm2(x y:Addr)(H H':Hp):Prop:=∀b o,H b=some o->b≠x->b≠y->H' b=some o
structure SpSt(H0 H:Hp)(Ra Aa Wa:Addr)(n:Nat)(row:Nat->Option Int)(above:Nat->Option Nat)(wt:List Nat):Prop where
 r:H Ra=some (.lst (ol row n))
 a:H Aa=some (.lst (ol (up1 above) n))
 w:H Wa=some (.lst (nl wt))
 s:Sm2 Ra Aa H0 H
theorem SpSt.same{H0 H H':Hp}{Ra Aa Wa:Addr}{n:Nat}{row:Nat->Option Int}{above:Nat->Option Nat}{wt:List Nat}(S:SpSt H0 H Ra Aa Wa n row above wt)(h:Same H H'):SpSt H0 H' Ra Aa Wa n row above wt:=
 ⟨h _ _ S.r,h _ _ S.a,h _ _ S.w,fun b o e h1 h2=>h _ _ (S.s b o e h1 h2)⟩
section
variable{P:Program}{w:World}{K:PySem.W.Frag}{mg:Str->Option Value}{base:Heap}{Pt c:Addr}
abbrev sSpr:Stmt:=top 43
abbrev nSpr:List Str:=["tied","row","above","root","waiting","place","point","near"]
def spSpr:Sp:=fun vs H Q _=>∃(Ta Ra Aa:Addr)(tl:List Addr)(adjL:Nat->List Nat)(V0:Nat->Prop)(row0:Nat->Option Int)(above:Nat->Option Nat)(n root:Nat),vs=[.ref Ta,.ref Ra,.ref Aa,.int (root:Int)]/\TiedAt H Ta tl adjL n/\H Ra=some (.lst (ol (put row0 root (some 0)) n))/\H Aa=some (.lst (ol (up1 above) n))/\Ra≠Aa/\(∀a∈Ta::tl,a≠Ra/\a≠Aa)/\n<=60/\
 BF adjL V0 row0 n root (put row0 root (some 0)) above [root] 0 (fun _=>0)/\
 ∀(H':Hp)(row':Nat->Option Int)(above':Nat->Option Nat)(wt:List Nat)(pl:Nat)(dep:Nat->Nat),Sm2 Ra Aa H H'->H' Ra=some (.lst (ol row' n))->H' Aa=some (.lst (ol (up1 above') n))->BF adjL V0 row0 n root row' above' wt pl dep->
  (wt.length<=pl->goW adjL n 0 (put row0 root (some 0)) above [root]=⟨none,row',above'⟩->Q .non H')/\∀(t:Addr)(p y:Nat),goW adjL n 0 (put row0 root (some 0)) above [root]=⟨some (p,y),row',above'⟩->H' t=some (.tup [.int (p:Int),.int (y:Int)])->p∈wt->y∈wt->y∈adjL p->dep y=dep p->Q (.ref t) H'
theorem scSpr:FnScope nSpr ["tied","row","above","root"] (defScope sSpr):=⟨rfl,rfl,rfl,by decide+kernel,rfl,by decide+kernel,by decide+kernel⟩
theorem ok_spr{f:Addr}{fd:FuncData}(F:Fun K "spread" "spread" sSpr f fd)(T:Bi mg):FnOk P w K mg base CX0 1 f fd ["tied","row","above","root"] spSpr:=by
 refine F.ok scSpr (fun vs H Q E h=>?_) (fun cdv A outer s H vs Q E hr h=>?_)
 ·obtain⟨Ta,Ra,Aa,tl,adjL,V0,row0,above,n,root,rfl,_⟩:=h
  rfl
 ·obtain⟨Ta,Ra,Aa,tl,adjL,V0,row0,above0,n,root,rfl,TA,hR0,hA0,hRA,hne,h60,B0,q⟩:=h
  refine⟨_,pss_cons (ps_set (i:=4) scSpr.nd rfl (Or.inl rfl) (pe_lst (pa_c (pv 3) pa_nil)))
   (pss_cons (ps_set (i:=5) scSpr.nd rfl (Or.inl rfl) pe_int)
   (pss_cons (ps_while PassesOwn.never (pt_cmpR op_lt (pv 5) (pe_callB call_len_seq rfl T.len bLen (pa_c (pv 4) pa_nil)) (nomark _))
    (pss_cons (ps_set (i:=6) scSpr.nd rfl (Or.inl rfl) (pe_ix ix_list (pv 4) (pv 5) (fun _ _=>rfl)))
    (pss_cons (ps_aug (i:=5) scSpr.nd rfl (Or.inl rfl) pe_int ip_add)
    (pss_one (ps_for PassesOwn.never rfl (pi_list (pe_ix ix_list (pv 0) (pv 6) (fun _ _=>rfl))) (pg_name (i:=7) scSpr.nd rfl (Or.inl rfl))
     (pss_one (ps_if (pt_cmpR op_isN (pe_ix ix_list (pv 1) (pv 7) (fun _ _=>rfl)) pe_non (nomark _))
      (pss_cons (ps_asg (pe_op op_sub pe_int (pe_ix ix_list (pv 1) (pv 6) (fun _ _=>rfl))) (pg_sub (pv 1) (pv 7) set_listN))
      (pss_cons (ps_asg (pv 6) (pg_sub (pv 2) (pv 7) set_listN))
      (pss_one (ps_expr (pe_bm PySem.F.plainAttrs_list PySem.F.slot_list_append PySem.F.type_list_append mt_append (pv 4) (pa_c (pv 7) pa_nil))))))
      (pss_one (ps_if (pt_cmpR op_eq (pe_ix ix_list (pv 1) (pv 7) (fun _ _=>rfl)) (pe_ix ix_list (pv 1) (pv 6) (fun _ _=>rfl)) (nomark _)) (pss_one (ps_ret (pe_tupS (pa_c (pv 6) (pa_c (pv 7) pa_nil))))) pss_nil))))))))
   ) (pss_one (ps_ret pe_non)))),?_⟩
  refine⟨_,rfl,(by show 1<=sizeLine;decide),fun Wa hW=>?_⟩
  have nR:Wa≠Ra:=fun z=>by rw[z,hR0]at hW;cases hW
  have nA:Wa≠Aa:=fun z=>by rw[z,hA0]at hW;cases hW
  have st0:SpSt H (upd H Wa (.lst [.int (root:Int)])) Ra Aa Wa n (put row0 root (some 0)) above0 [root]:=
   ⟨by rw[upd_ne (Ne.symm nR)];exact hR0,by rw[upd_ne (Ne.symm nA)];exact hA0,by rw[upd_same];rfl,fun b o e _ _=>same_new hW b o e⟩
  have tied:∀{H'},Sm2 Ra Aa H H'->TiedAt H' Ta tl adjL n:=fun{H'} s'=>⟨s' _ _ TA.top (hne Ta (.head _)).1 (hne Ta (.head _)).2,TA.len,fun i a e=>s' _ _ (TA.row i a e) (hne a (.tail _ (List.mem_of_getElem? e))).1 (hne a (.tail _ (List.mem_of_getElem? e))).2⟩
  refine⟨fun m σ H'=>∃row above wt pl dep v6 v7,m=n-pl/\σ=[some (.ref Ta),some (.ref Ra),some (.ref Aa),some (.int (root:Int)),some (.ref Wa),some (.int ((pl:Nat):Int)),v6,v7]/\SpSt H H' Ra Aa Wa n row above wt/\BF adjL V0 row0 n root row above wt pl dep/\goW adjL (n-pl) pl row above wt=goW adjL n 0 (put row0 root (some 0)) above0 [root],
   ⟨_,_,_,_,0,_,none,none,rfl,rfl,st0,B0,rfl⟩,?_⟩
  rintro m σ H' ⟨row,above,wt,pl,dep,v6,v7,rfl,rfl,st,B,hG⟩
  refine⟨_,rfl,_,rfl,Wa,_,rfl,.inl (SqL.of st.w),_,_,rfl,rfl,_,rfl,?_⟩
  have hwn:wt.length<=n:=len_of_lt n wt B.nd B.lt
  refine ite2 (fun hlt=>?_) (fun hlt=>?_)
  ·have hlt':pl<wt.length:=by
    have:=of_decide_eq_true hlt
    rw[nl_len]at this
    omega
   refine⟨fun σ' H'=>∃m',m'<n-pl/\∃row above wt pl dep v6 v7,m'=n-pl/\σ'=[some (.ref Ta),some (.ref Ra),some (.ref Aa),some (.int (root:Int)),some (.ref Wa),some (.int ((pl:Nat):Int)),v6,v7]/\SpSt H H' Ra Aa Wa n row above wt/\BF adjL V0 row0 n root row above wt pl dep/\goW adjL (n-pl) pl row above wt=goW adjL n 0 (put row0 root (some 0)) above0 [root],fun _ _ h=>h,?_⟩
   have hp:wt[pl]?=some wt[pl]:=List.getElem?_eq_getElem hlt'
   generalize hpe:wt[pl]=p at hp
   have hpn:p<n:=B.lt p (List.mem_of_getElem? hp)
   have hpt:p<tl.length:=by rw[TA.len];exact hpn
   have TA1:=tied st.s
   have ra:=TA1.row p tl[p] (List.getElem?_eq_getElem hpt)
   refine⟨_,rfl,_,rfl,Wa,_,_,_,rfl,rfl,SqL.of st.w,atI_nat (nl_get hp),?_⟩
   refine⟨_,rfl,_,_,rfl,rfl,?_⟩
   refine⟨_,rfl,_,rfl,Ta,_,_,.ref tl[p],rfl,rfl,SqL.of TA1.top,atI_nat (by rw[List.getElem?_map,List.getElem?_eq_getElem hpt];rfl),tl[p],rfl,⟨_,SqL.of ra⟩,
    for_list (K:=K) (a:=tl[p]) (xs:=nl (adjL p)) (fun k σ H2=>∃row above wt dep v7,σ=[some (.ref Ta),some (.ref Ra),some (.ref Aa),some (.int (root:Int)),some (.ref Wa),some (.int ((pl:Int)+1)),some (.int (p:Int)),v7]/\SpSt H H2 Ra Aa Wa n row above wt/\BF adjL V0 row0 n root row above wt pl dep/\wt[pl]?=some p/\Part adjL row wt dep p k/\goN p (goW adjL (n-(pl+1)) (pl+1)) ((adjL p).drop k) row above wt=goW adjL n 0 (put row0 root (some 0)) above0 [root])
     ⟨row,above,wt,dep,_,rfl,st,B,hp,(fun y hy=>by rw[List.take_zero]at hy;cases hy),by rw[List.drop_zero,<-goW_step adjL (n-(pl+1)) pl p row above wt hp,show n-(pl+1)+1=n-pl by omega];exact hG⟩ (fun k σ H2 _⟨row,above,wt,dep,v7,_,st2,_⟩=>SqL.of ((tied st2.s).row p tl[p] (List.getElem?_eq_getElem hpt))) (fun k x σ H2 hx⟨row2,above2,wt2,dep2,v7,e,st2,B2,hp2,A2,hG2⟩=>?_) (fun σ H2⟨row2,above2,wt2,dep2,v7,e,st2,B2,hp2,A2,hG2⟩=>?_)⟩
   ·subst e
    obtain⟨y,hy,rfl⟩:∃y,(adjL p)[k]?=some y/\x=V.int (y:Int):=by
     unfold nl at hx
     rw[List.getElem?_map]at hx
     cases z:(adjL p)[k]? with
     |none=>rw[z]at hx;cases hx
     |some y=>rw[z]at hx;cases hx;exact⟨y,rfl,rfl⟩
    have hya:y∈adjL p:=List.mem_of_getElem? hy
    have hdr:(adjL p).drop k=y::(adjL p).drop (k+1):=by
     obtain⟨hk,ek⟩:=List.getElem?_eq_some_iff.mp hy
     rw[<-ek]
     exact List.drop_eq_getElem_cons hk
    rw[hdr]at hG2
    unfold goN at hG2
    have hyn:y<n:=B2.bnd p y hya
    have hpw:=List.mem_of_getElem? hp2
    have rowp:(ol row2 n)[p]?=some (.int (tint (dep2 p))):=by rw[ol_get _ hpn];unfold ov;rw[B2.col p hpw]
    refine⟨_,rfl,_,rfl,Ra,_,_,ov row2 y,rfl,rfl,SqL.of st2.r,atI_nat (ol_get _ hyn),rfl,_,rfl,?_⟩
    refine ite2 (fun hz=>?_) (fun hz=>?_)
    ·have hz':row2 y=none:=ov_none.mp (of_decide_eq_true hz)
     refine⟨_,rfl,_,rfl,Ra,_,_,.int (tint (dep2 p)),rfl,rfl,SqL.of st2.r,atI_nat rowp,_,_,rfl,rfl,_,rfl,_,rfl,Ra,_,y,rfl,rfl,st2.r,by rw[ol_len];exact hyn,?_⟩
     refine⟨_,rfl,_,rfl,_,rfl,Aa,ol (up1 above2) n,y,rfl,rfl,by rw[upd_ne (Ne.symm hRA)];exact st2.a,by rw[ol_len];exact hyn,?_⟩
     have hw3:(upd (upd H2 Ra (.lst ((ol row2 n).set y (.int (1-tint (dep2 p)))))) Aa (.lst ((ol (up1 above2) n).set y (.int (p:Int))))) Wa=some (.lst (nl wt2)):=by rw[upd_ne nA,upd_ne nR];exact st2.w
     have hwl:wt2.length<=n:=len_of_lt n wt2 B2.nd B2.lt
     refine⟨_,rfl,.inl ⟨rfl,_,SqL.of hw3⟩,_,rfl,Wa,_,_,rfl,rfl,hw3,(by rw[nl_len,sizeLine_eq];omega),_,_,_,_,_,rfl,?_,B2.add hp2 hya hz',by rw[List.getElem?_append_left (List.getElem?_eq_some_iff.mp hp2).1];exact hp2,Part.add B2 hp2 hy hz' A2,by rw[if_pos hz',B2.col p hpw]at hG2;exact hG2⟩
     refine⟨?_,?_,?_,fun b o e h1 h2=>?_⟩
     ·rw[upd_ne (Ne.symm nR),upd_ne hRA,upd_same,ol_set]
     ·rw[upd_ne (Ne.symm nA),upd_same,ol_set,up1_put]
     ·rw[upd_same]
      unfold nl
      rw[List.map_append]
      rfl
     ·have h3:b≠Wa:=fun z=>by rw[z,hW]at e;cases e
      rw[upd_ne h3,upd_ne h2,upd_ne h1]
      exact st2.s b o e h1 h2
    ·have hz':row2 y≠none:=fun z=>hz (decide_eq_true (ov_none.mpr z))
     obtain⟨v,hv⟩:∃v,row2 y=some v:=Option.ne_none_iff_exists'.mp hz'
     have rowy:(ol row2 n)[y]?=some (.int v):=by rw[ol_get _ hyn];unfold ov;rw[hv]
     refine⟨_,rfl,_,rfl,Ra,_,_,.int v,rfl,rfl,SqL.of st2.r,atI_nat rowy,_,rfl,_,rfl,Ra,_,_,.int (tint (dep2 p)),rfl,rfl,SqL.of st2.r,atI_nat rowp,rfl,_,rfl,?_⟩
     refine ite2 (fun he=>?_) (fun he=>?_)
     ·have he':row2 y=row2 p:=by
       have:=of_decide_eq_true he
       rw[hv,B2.col p hpw]
       cases this
       rfl
      obtain⟨c1,c2⟩:=B2.clash hp2 hya he'
      refine⟨_,rfl,_,rfl,rfl,fun t H3 s3 ht=>?_⟩
      have st3:=st2.same s3
      rw[if_neg hz',if_pos he']at hG2
      exact(q H3 row2 above2 wt2 pl dep2 st3.s st3.r st3.a B2).2 t p y hG2.symm ht hpw c1 hya c2
     ·have he':row2 y≠row2 p:=fun z=>he (decide_eq_true (by rw[hv,B2.col p hpw]at z;rw[Option.some.inj z]))
      exact⟨_,_,_,_,_,rfl,st2,B2,hp2,Part.skip B2 hp2 hy hz' he' A2,by rw[if_neg hz',if_neg he']at hG2;exact hG2⟩
   ·subst e
    rw[nl_len]at A2 hG2
    rw[List.drop_length]at hG2
    exact⟨n-(pl+1),by omega,row2,above2,wt2,pl+1,dep2,_,_,rfl,rfl,st2,B2.next hp2 A2,hG2⟩
  ·have hle:wt.length<=pl:=by
    rw[<-nl_len]
    have:¬((pl:Int)<((nl wt).length:Int)):=fun z=>hlt (decide_eq_true z)
    omega
   exact(q H' row above wt pl dep st.s st.r st.a B).1 hle (by rw[<-hG,goW_end adjL _ _ _ _ _ hle])
end
def compScope:Expr->Scope
 | .ListComp _ _ s _=>s
 | .Call _ [e] _ _=>compScope e
 | .Compare a _ _ _=>compScope a
 |_=>{kind:= .function,names:=[],isGenerator:=false,isCoroutine:=false}
def retE:Stmt->Expr
 | .Return (some e) _=>e
 | .Assign _ e _=>e
 |_=> .Constant .none 0 ⟨0,0,0,0⟩
def stOf(i k:Nat):Stmt:=(defBody (top i)).getD k (.Pass ⟨0,0,0,0⟩)
structure NetZ(H:Hp)(p:Addr)(n:Nat)(q:Addr)(ts:List V)(es:List (Nat×Nat)):Prop where
 e1:H p=some (.tup [.int (n:Int),.ref q])
 e2:H q=some (.tup ts)
 len:ts.length=es.length
 tie:∀(i:Nat) t,ts[i]?=some t->∃a,t=V.ref a/\H a=some (.tup [.int ((es.getD i (0,0)).1:Int),.int ((es.getD i (0,0)).2:Int)])
 l200:es.length<=200
 n60:n<=60
 ok:∀e∈es,e.1<n/\e.2<n/\e.1≠e.2
theorem NetZ.tk{H H':Hp}{p q:Addr}{n:Nat}{ts:List V}{es:List (Nat×Nat)}(h:NetZ H p n q ts es)(k:Tk H H'):NetZ H' p n q ts es:=
 ⟨k _ _ h.e1,k _ _ h.e2,h.len,fun i t e=>let⟨a,x,y⟩:=h.tie i t e;⟨a,x,k _ _ y⟩,h.l200,h.n60,h.ok⟩
def grow(F:Nat->List Nat)(k v:Nat):Nat->List Nat:=fun i=>if i=k then F i++[v]else F i
def adjF(es:List (Nat×Nat)):Nat->Nat->List Nat
 |0=>fun _=>[]
 |m+1=>grow (grow (adjF es m) (es.getD m (0,0)).1 (es.getD m (0,0)).2) (es.getD m (0,0)).2 (es.getD m (0,0)).1
theorem mem_grow{F:Nat->List Nat}{k v i y:Nat}:y∈grow F k v i↔y∈F i\/(i=k/\y=v):=by
 unfold grow
 by_cases h:i=k
 ·rw[if_pos h,List.mem_append,List.mem_singleton]
  exact⟨fun z=>z.imp id fun z=>⟨h,z⟩,fun z=>z.imp id fun z=>z.2⟩
 ·rw[if_neg h]
  exact⟨.inl,fun z=>z.elim id fun z=>absurd z.1 h⟩
theorem mem_adjF(es:List (Nat×Nat))(x y:Nat):∀m,y∈adjF es m x↔∃k,k<m/\((x=(es.getD k (0,0)).1/\y=(es.getD k (0,0)).2)\/(x=(es.getD k (0,0)).2/\y=(es.getD k (0,0)).1))
 |0=>⟨(fun h=>by cases h),fun⟨k,h,_⟩=>absurd h (Nat.not_lt_zero _)⟩
 |m+1=>by
  unfold adjF
  rw[mem_grow,mem_grow,mem_adjF es x y m]
  constructor
  ·rintro((⟨k,h1,h2⟩|h)|h)
   ·exact⟨k,by omega,h2⟩
   ·exact⟨m,by omega,.inl h⟩
   ·exact⟨m,by omega,.inr h⟩
  ·rintro⟨k,h1,h2⟩
   by_cases e:k=m
   ·subst e
    rcases h2 with h|h
    ·exact .inl (.inr h)
    ·exact .inr h
   ·exact .inl (.inl ⟨k,by omega,h2⟩)
theorem adjF_sym(es:List (Nat×Nat))(m x y:Nat)(h:y∈adjF es m x):x∈adjF es m y:=by
 rw[mem_adjF]at h⊢
 obtain⟨k,h1,h2⟩:=h
 exact⟨k,h1,h2.elim (fun z=> .inr ⟨z.2,z.1⟩) fun z=> .inl ⟨z.2,z.1⟩⟩
theorem getD_mem{es:List (Nat×Nat)}{k:Nat}(h:k<es.length):es.getD k (0,0)∈es:=by rw[List.getD_eq_getElem?_getD,List.getElem?_eq_getElem h];exact List.getElem_mem h
theorem adjF_bnd{H:Hp}{p q:Addr}{n:Nat}{ts:List V}{es:List (Nat×Nat)}(N:NetZ H p n q ts es)(x y:Nat)(h:y∈adjF es es.length x):y<n:=by
 rw[mem_adjF]at h
 obtain⟨k,h1,h2⟩:=h
 obtain⟨a,b,_⟩:=N.ok _ (getD_mem h1)
 rcases h2 with z|z
 ·rw[z.2];exact b
 ·rw[z.2];exact a
theorem adjF_len(es:List (Nat×Nat))(i:Nat):∀m,(adjF es m i).length<=2*m
 |0=>Nat.le_refl _
 |m+1=>by
  have h:=adjF_len es i m
  unfold adjF grow
  split<;>split<;>(try rw[List.length_append])<;>(try rw[List.length_append])<;>(try simp only[List.length_singleton])<;>omega
structure RS(H1 H:Hp)(R:Addr)(rs:List Addr)(F:Nat->List Nat):Prop where
 top:H R=some (.lst (rs.map V.ref))
 row:∀(i:Nat) a,rs[i]?=some a->H a=some (.lst (nl (F i)))
 same:Same H1 H
theorem RS.write{H1 H:Hp}{R a:Addr}{rs:List Addr}{F:Nat->List Nat}{k v:Nat}(st:RS H1 H R rs F)(nd:rs.Nodup)(hR:R ∉ rs)(fr:∀a∈rs,H1 a=none) (hk:rs[k]?=some a):RS H1 (upd H a (.lst (nl (F k)++[.int (v:Int)]))) R rs (grow F k v):=by
 have ham:a∈rs:=List.mem_of_getElem? hk
 refine⟨?_,fun i b e=>?_,fun c' o' e'=>?_⟩
 ·rw[upd_ne (show R≠a from fun z=>hR (by rw[z];exact ham))]
  exact st.top
 ·unfold grow
  by_cases hi:i=k
  ·subst hi
   rw[hk]at e
   cases e
   rw[upd_same,if_pos rfl]
   unfold nl
   rw[List.map_append]
   rfl
  ·rw[if_neg hi]
   have hne:b≠a:=fun z=>by
    subst z
    obtain⟨l1,e1⟩:=List.getElem?_eq_some_iff.mp e
    obtain⟨l2,e2⟩:=List.getElem?_eq_some_iff.mp hk
    exact hi ((List.getElem_inj (h₀:=l1) (h₁:=l2) nd).mp (e1.trans e2.symm))
   rw[upd_ne hne]
   exact st.row i b e
 ·rw[upd_ne (ne_of_none e' (fr a ham))]
  exact st.same _ _ e'
section
variable{P:Program}{w:World}{K:PySem.W.Frag}{mg:Str->Option Value}{base:Heap}{Pt c:Addr}
abbrev sNb:Stmt:=top 42
abbrev nbScope:Scope:=compScope (retE (stOf 42 0))
abbrev nNb:List Str:=["net","point","tied","one","other"]
def spNb:Sp:=fun vs H Q _=>∃p n q ts es,vs=[.ref p]/\NetZ H p n q ts es/\∀H' Ta tl,Same H H'->TiedAt H' Ta tl (adjF es es.length) n->Q (.ref Ta) H'
theorem ndNb:(["point"]:List Str).Nodup:=by decide+kernel
theorem scNb:FnScope nNb ["net"] (defScope sNb):=⟨rfl,rfl,rfl,by decide+kernel,rfl,by decide+kernel,by decide+kernel⟩
theorem blkNb{f:Addr}{cdv:Value}{A:Around}{outer:List Env}{s:Shared}{H:Hp}{E:XK}:
  Blk (cxOf CX0 P w K mg base nNb "neighbours" (defScope sNb) f cdv A outer s H E).nox nbScope [] ["point"] [none]:=by
 refine⟨rfl,rfl,by decide+kernel,by decide+kernel,fun p hp=>(by cases hp),fun y hy e=>?_,trivial⟩
 have hy':y∈[((PySem.Str.ofString ".0":Str),NameKind.local),(PySem.Str.ofString "point",.local)]:=hy
 simp only[List.mem_cons,List.not_mem_nil,or_false]at hy'
 rcases hy' with rfl|rfl<;>cases e
theorem ok_nb{f:Addr}{fd:FuncData}(F:Fun K "neighbours" "neighbours" sNb f fd)(T:Bi mg):FnOk P w K mg base CX0 1 f fd ["net"] spNb:=by
 refine F.ok scNb (fun vs H Q E h=>?_) (fun cdv A outer s H vs Q E hr h=>?_)
 ·obtain⟨p,n,q,ts,es,rfl,_⟩:=h
  rfl
 ·obtain⟨p,n,qa,ts,es,rfl,N,q⟩:=h
  refine⟨_,pss_cons (ps_lcR blkNb rfl rfl T.range (pa_c (pe_ix ix_tup (pv 0) pe_int (fun _ _=>rfl)) pa_nil) (monoA_cons (mono_ixT (mono_var 0) (mono_c _)) monoA_nil) rfl (fun C fp s H=>pg_name (i:=0) ndNb rfl (Or.inl rfl)) (fun C fp s H=>pts_nil) (fun C fp s H=>pe_lst pa_nil)
    (pg_name (i:=2) scNb.nd rfl (Or.inl rfl)) rfl)
   (pss_cons (ps_for PassesOwn.never rfl (pi_tup (pe_ix ix_tup (pv 0) pe_int (fun _ _=>rfl))) (pg_tup rfl (pgs_cons (pg_name (i:=3) scNb.nd rfl (Or.inl rfl)) (pgs_cons (pg_name (i:=4) scNb.nd rfl (Or.inl rfl)) pgs_nil)))
    (pss_cons (ps_expr (pe_bm PySem.F.plainAttrs_list PySem.F.slot_list_append PySem.F.type_list_append mt_append (pe_ix ix_list (pv 2) (pv 3) (fun _ _=>rfl)) (pa_c (pv 4) pa_nil)))
    (pss_one (ps_expr (pe_bm PySem.F.plainAttrs_list PySem.F.slot_list_append PySem.F.type_list_append mt_append (pe_ix ix_list (pv 2) (pv 4) (fun _ _=>rfl)) (pa_c (pv 3) pa_nil))))))
   (pss_one (ps_ret (pv 2)))),?_⟩
  have h60:=N.n60
  have h200:=N.l200
  have hlen:=N.len
  refine⟨_,rfl,p,_,_,_,rfl,rfl,SqT.of N.e1,rfl,n,rfl,by omega,fun i ys σ H'=>∃rs:List Addr,ys=rs.map V.ref/\rs.length=i/\rs.Nodup/\Same H H'/\(∀b∈rs,H b=none/\H' b=some (.lst []))/\∃v0,σ=[v0],
   ⟨[],rfl,rfl,List.nodup_nil,Same.refl H,(fun b hb=>by cases hb),none,rfl⟩,fun i ys σ H' hi⟨rs,e1,e2,_⟩=>by subst e1;rw[List.length_map];omega,fun i ys σ H' hi⟨rs,e1,e2,nd,sH,hrs,v0,e3⟩=>?_,fun ys σ H'⟨rs,e1,e2,nd,sH,hrs,_⟩ R H2 s2 hR=>?_⟩
  ·subst e1 e3
   dsimp only[gName,tTrue]
   refine iteT ⟨(by show 0<=sizeLine;exact Nat.zero_le _),fun d hd=>⟨rs++[d],by rw[List.map_append];rfl,by rw[List.length_append,e2];rfl,?_,Same.trans sH (same_new hd),fun b hb=>?_,_,rfl⟩⟩
   ·rw[List.nodup_append]
    refine⟨nd,List.nodup_cons.mpr ⟨List.not_mem_nil,List.nodup_nil⟩,fun x hx y hy z=>?_⟩
    rw[List.mem_singleton]at hy
    subst hy z
    rw[(hrs x hx).2]at hd
    cases hd
   ·rcases List.mem_append.mp hb with z|z
    ·exact⟨(hrs b z).1,by rw[upd_ne (ne_of_none (hrs b z).2 hd)];exact(hrs b z).2⟩
    ·rw[List.mem_singleton.mp z]
     refine⟨?_,upd_same⟩
     cases y:H d with
     |none=>rfl
     |some o=>rw[sH d o y]at hd;cases hd
  ·subst e1
   have sH2:=Same.trans sH s2
   have hRn:R ∉ rs:=fun z=>by
    have z2:=s2 _ _ (hrs R z).2
    rw[hR]at z2
    cases rs with
    |nil=>cases z
    |cons b bs=>cases z2
   have fr:∀b∈rs,H b=none:=fun b hb=>(hrs b hb).1
   have st0:RS H H2 R rs (adjF es 0):=⟨hR,fun i b e=>by rw[s2 _ _ (hrs b (List.mem_of_getElem? e)).2];rfl,sH2⟩
   refine⟨_,rfl,p,_,_,_,rfl,rfl,SqT.of (sH2 _ _ N.e1),rfl,qa,rfl,⟨_,SqT.of (sH2 _ _ N.e2)⟩,for_tup (K:=K) (a:=qa) (xs:=ts) (fun i σ H'=>(∃v1 v3 v4,σ=[some (.ref p),v1,some (.ref R),v3,v4])/\RS H H' R rs (adjF es i)) ⟨⟨_,_,_,rfl⟩,st0⟩ (fun i σ H' _ z=>SqT.of (z.2.same _ _ N.e2)) (fun i x σ H' hx⟨⟨v1,v3,v4,e⟩,st⟩=>?_) (fun σ H'⟨⟨v1,v3,v4,e⟩,st⟩=>?_)⟩
   ·subst e
    have hi':i<ts.length:=(List.getElem?_eq_some_iff.mp hx).1
    have hie:i<es.length:=by omega
    obtain⟨b,rfl,hbt⟩:=N.tie i x hx
    obtain⟨a1,b1,ab⟩:=N.ok _ (getD_mem hie)
    have l1:(es.getD i (0,0)).1<rs.length:=by omega
    have l2:(es.getD i (0,0)).2<rs.length:=by omega
    have hz:∀(G:Nat->List Nat)(k:Nat),(G k).length<=2*i+1->(nl (G k)).length<sizeLine:=fun G k hG=>by rw[nl_len,sizeLine_eq];omega
    refine⟨b,_,rfl,SqT.of (st.same _ _ hbt),rfl,_,_,rfl,_,_,rfl,rfl,?_⟩
    have r1:=st.row _ _ (List.getElem?_eq_getElem l1)
    have st2:=st.write (v:=(es.getD i (0,0)).2) nd hRn fr (List.getElem?_eq_getElem l1)
    have r2:=st2.row _ _ (List.getElem?_eq_getElem l2)
    have st3:=st2.write (v:=(es.getD i (0,0)).1) nd hRn fr (List.getElem?_eq_getElem l2)
    refine⟨_,rfl,_,rfl,R,_,_,.ref rs[(es.getD i (0,0)).1],rfl,rfl,SqL.of st.top,atI_nat (by rw[List.getElem?_map,List.getElem?_eq_getElem l1];rfl),.inl ⟨rfl,_,SqL.of r1⟩,_,rfl,rs[(es.getD i (0,0)).1],_,_,rfl,rfl,r1,hz _ _ (by have:=adjF_len es (es.getD i (0,0)).1 i;omega),?_⟩
    refine⟨_,rfl,_,rfl,R,_,_,.ref rs[(es.getD i (0,0)).2],rfl,rfl,SqL.of st2.top,atI_nat (by rw[List.getElem?_map,List.getElem?_eq_getElem l2];rfl),.inl ⟨rfl,_,SqL.of r2⟩,_,rfl,rs[(es.getD i (0,0)).2],_,_,rfl,rfl,r2,hz _ _ ?_,⟨_,_,_,rfl⟩,st3⟩
    have:=adjF_len es (es.getD i (0,0)).2 i
    unfold grow
    rw[if_neg (fun z=>ab z.symm)]
    omega
   ·subst e
    rw[hlen]at st
    exact⟨_,rfl,q H' R rs st.same ⟨st.top,e2,fun i b e=>st.row i b e⟩⟩
end
section
variable{adjL:Nat->List Nat}{V0:Nat->Prop}{row0 row:Nat->Option Int}{n root:Nat}{above:Nat->Option Nat}{wt:List Nat}{pl:Nat}{dep:Nat->Nat}
theorem BF.dep_lt(B:BF adjL V0 row0 n root row above wt pl dep){x:Nat}(hx:x∈wt):dep x<n:=by
 have h:=len_of_lt n ((List.range (dep x+1)).map (it (parOf above) x)) (by
  rw[List.Nodup,List.pairwise_map]
  refine List.Pairwise.imp_of_mem (fun{i j} hi hj h=>?_) (List.nodup_range (n:=dep x+1))
  rw[List.mem_range]at hi hj
  intro z
  have h1:=(B.up hx i (by omega)).2
  have h2:=(B.up hx j (by omega)).2
  rw[z]at h1
  exact h (by omega)) (fun y hy=>by
  obtain⟨i,hi,rfl⟩:=List.mem_map.mp hy
  rw[List.mem_range]at hi
  exact B.lt _ (B.up hx i (by omega)).1)
 rw[List.length_map,List.length_range]at h
 omega
end
def leg(above:Nat->Option Nat)(x m:Nat):List Nat:=(List.range m).map (it (parOf above) x)
theorem leg_succ(above:Nat->Option Nat)(x m:Nat):leg above x (m+1)=leg above x m++[it (parOf above) x m]:=by
 unfold leg
 rw[List.range_succ,List.map_append]
 rfl
theorem nl_app(l:List Nat)(x:Nat):nl (l++[x])=nl l++[.int (x:Int)]:=by
 unfold nl
 rw[List.map_append]
 rfl
theorem leg_len(above:Nat->Option Nat)(x m:Nat):(leg above x m).length=m:=by unfold leg;rw[List.length_map,List.length_range]
theorem cut_last(xs:List V)(v:V):cutV (xs++[v]) none (some (-1))=xs:=by
 have e:HT.sIx (xs++[v]).length (xs++[v]).length (some (-1))=xs.length:=by
  rw[List.length_append,List.length_singleton]
  unfold HT.sIx
  simp only[]
  split<;>omega
 unfold cutV
 rw[e,HT.sIx_none,List.drop_zero,Nat.sub_zero,List.take_left]
section
variable{P:Program}{w:World}{K:PySem.W.Frag}{mg:Str->Option Value}{base:Heap}{Pt c:Addr}
abbrev sCl:Stmt:=top 44
abbrev nCl:List Str:=["above","one","other","up","down"]
def spCl:Sp:=fun vs H Q _=>∃(Aa:Addr)(adjL:Nat->List Nat)(V0:Nat->Prop)(row0 row:Nat->Option Int)(n root:Nat)(above:Nat->Option Nat)(wt:List Nat)(pl:Nat)(dep:Nat->Nat)(a b:Nat),vs=[.ref Aa,.int (a:Int),.int (b:Int)]/\H Aa=some (.lst (ol (up1 above) n))/\BF adjL V0 row0 n root row above wt pl dep/\a∈wt/\b∈wt/\dep b=dep a/\n<=60/\
 ∀(H':Hp)(t:Addr)(m:Nat),Same H H'->H' t=some (.tup (nl (ring (parOf above) a b m)))->m<=dep a->it (parOf above) a m=it (parOf above) b m->(∀i,i<m->it (parOf above) a i≠it (parOf above) b i)->Q (.ref t) H'
theorem scCl:FnScope nCl ["above","one","other"] (defScope sCl):=⟨rfl,rfl,rfl,by decide+kernel,rfl,by decide+kernel,by decide+kernel⟩
theorem ok_cl{f:Addr}{fd:FuncData}(F:Fun K "closed" "closed" sCl f fd)(T:Bi mg)(hrv:mg "reversed"=none):FnOk P w K mg base CX0 1 f fd ["above","one","other"] spCl:=by
 refine F.ok scCl (fun vs H Q E h=>?_) (fun cdv A outer s H vs Q E hr h=>?_)
 ·obtain⟨Aa,adjL,V0,row0,row,n,root,above,wt,pl,dep,a,b,rfl,_⟩:=h
  rfl
 ·obtain⟨Aa,adjL,V0,row0,row,n,root,above,wt,pl,dep,a,b,rfl,hA,B,ha,hb,hd,h60,q⟩:=h
  refine⟨_,pss_cons (ps_set (i:=3) scCl.nd rfl (Or.inl rfl) (pe_lst (pa_c (pv 1) pa_nil)))
   (pss_cons (ps_set (i:=4) scCl.nd rfl (Or.inl rfl) (pe_lst (pa_c (pv 2) pa_nil)))
   (pss_cons (ps_while PassesOwn.never (pt_cmpR op_ne (pe_ix ix_list (pv 3) (pe_un un_neg pe_int) (fun _ _=>rfl)) (pe_ix ix_list (pv 4) (pe_un un_neg pe_int) (fun _ _=>rfl)) (nomark _))
    (pss_cons (ps_expr (pe_bm PySem.F.plainAttrs_list PySem.F.slot_list_append PySem.F.type_list_append mt_append (pv 3) (pa_c (pe_ix ix_list (pv 0) (pe_ix ix_list (pv 3) (pe_un un_neg pe_int) (fun _ _=>rfl)) (fun _ _=>rfl)) pa_nil)))
    (pss_one (ps_expr (pe_bm PySem.F.plainAttrs_list PySem.F.slot_list_append PySem.F.type_list_append mt_append (pv 4) (pa_c (pe_ix ix_list (pv 0) (pe_ix ix_list (pv 4) (pe_un un_neg pe_int) (fun _ _=>rfl)) (fun _ _=>rfl)) pa_nil))))))
   (pss_one (ps_ret (pe_callTy call_tuple_ofS rfl T.tuple bTuple (pa_c (pe_op op_catLS (pv 3) (pe_listRev rfl (pe_slice sl_list (pv 4) po_none (po_some (pe_un un_neg pe_int))) rfl T.list rfl hrv rfl)) pa_nil)))))),?_⟩
  have hdn:=B.dep_lt ha
  refine⟨_,rfl,(by show 1<=sizeLine;decide),fun U hU=>?_⟩
  refine⟨_,rfl,(by show 1<=sizeLine;decide),fun D hD=>?_⟩
  have hUD:U≠D:=fun z=>by subst z;rw[upd_same]at hD;cases hD
  have hD0:H D=none:=by
   cases z:H D with
   |none=>rfl
   |some o=>rw[same_new hU D o z]at hD;cases hD
  have s0:Same H (upd (upd H U (.lst [.int (a:Int)])) D (.lst [.int (b:Int)])):=Same.trans (same_new hU) (same_new hD)
  refine⟨fun μ σ H'=>∃m,μ=dep a-m/\m<=dep a/\(∀i,i<m->it (parOf above) a i≠it (parOf above) b i)/\σ=[some (.ref Aa),some (.int (a:Int)),some (.int (b:Int)),some (.ref U),some (.ref D)]/\H' U=some (.lst (nl (leg above a (m+1))))/\H' D=some (.lst (nl (leg above b (m+1))))/\Same H H',
   ⟨_,0,rfl,Nat.zero_le _,fun i h=>absurd h (Nat.not_lt_zero _),rfl,by rw[upd_ne hUD,upd_same];rfl,by rw[upd_same];rfl,s0⟩,?_⟩
  rintro μ σ H' ⟨m,rfl,hm,hf,rfl,hU',hD',sH⟩
  rw[leg_succ,nl_app]at hU' hD'
  have lU:=atI_last (nl (leg above a m)) (.int ((it (parOf above) a m:Nat):Int))
  have lD:=atI_last (nl (leg above b m)) (.int ((it (parOf above) b m:Nat):Int))
  refine⟨_,rfl,_,rfl,U,_,_,_,rfl,rfl,SqL.of hU',lU,_,rfl,_,rfl,D,_,_,_,rfl,rfl,SqL.of hD',lD,rfl,_,rfl,?_⟩
  refine ite2 (fun hne=>?_) (fun hne=>?_)
  ·have hne':it (parOf above) a m≠it (parOf above) b m:=fun z=>by
    rw[z]at hne
    simp at hne
   have hlt:m<dep a:=by
    rcases Nat.lt_or_eq_of_le hm with h|h
    ·exact h
    ·exact absurd (by rw[h,B.upEnd ha,<-hd,B.upEnd hb]) hne'
   refine⟨fun σ' H'=>∃m',m'<dep a-m/\∃m,m'=dep a-m/\m<=dep a/\(∀i,i<m->it (parOf above) a i≠it (parOf above) b i)/\σ'=[some (.ref Aa),some (.int (a:Int)),some (.int (b:Int)),some (.ref U),some (.ref D)]/\H' U=some (.lst (nl (leg above a (m+1))))/\H' D=some (.lst (nl (leg above b (m+1))))/\Same H H',fun _ _ h=>h,?_⟩
   have ab:∀x,x∈wt->m<dep x->atI (ol (up1 above) n) ((it (parOf above) x m:Nat):Int)=some (.int ((it (parOf above) x (m+1):Nat):Int)):=fun x hx hl=>by
    refine atI_nat ?_
    rw[ol_get _ (B.lt _ (B.up hx m (by omega)).1)]
    unfold ov up1
    rw[(B.upTie hx m hl).1]
    rfl
   have szm:∀x,(nl (leg above x m)++[V.int ((it (parOf above) x m:Nat):Int)]).length<sizeLine:=fun x=>by
    rw[List.length_append,nl_len,leg_len,List.length_singleton,sizeLine_eq]
    omega
   have nAU:Aa≠U:=fun z=>by rw[<-z,hA]at hU;cases hU
   have nAD:Aa≠D:=fun z=>by rw[<-z,hA]at hD0;cases hD0
   refine⟨_,rfl,.inl ⟨rfl,_,SqL.of hU'⟩,_,rfl,_,rfl,_,rfl,U,_,_,_,rfl,rfl,SqL.of hU',lU,Aa,_,_,_,rfl,rfl,SqL.of (sH _ _ hA),ab a ha hlt,U,_,_,rfl,rfl,hU',szm a,?_⟩
   have hD2:(upd H' U (.lst (nl (leg above a m)++[.int ((it (parOf above) a m:Nat):Int)]++[.int ((it (parOf above) a (m+1):Nat):Int)]))) D=some (.lst (nl (leg above b m)++[.int ((it (parOf above) b m:Nat):Int)])):=by rw[upd_ne (Ne.symm hUD)];exact hD'
   have hA2:(upd H' U (.lst (nl (leg above a m)++[.int ((it (parOf above) a m:Nat):Int)]++[.int ((it (parOf above) a (m+1):Nat):Int)]))) Aa=some (.lst (ol (up1 above) n)):=by rw[upd_ne nAU];exact sH _ _ hA
   refine⟨_,rfl,.inl ⟨rfl,_,SqL.of hD2⟩,_,rfl,_,rfl,_,rfl,D,_,_,_,rfl,rfl,SqL.of hD2,lD,Aa,_,_,_,rfl,rfl,SqL.of hA2,ab b hb (by omega),D,_,_,rfl,rfl,hD2,szm b,?_⟩
   refine⟨dep a-(m+1),by omega,m+1,rfl,hlt,fun i hi=>?_,rfl,?_,?_,fun b' o' e'=>?_⟩
   ·by_cases e:i=m
    ·rw[e];exact hne'
    ·exact hf i (by omega)
   ·rw[upd_ne hUD,upd_same,leg_succ,nl_app,leg_succ,nl_app]
   ·rw[upd_same,leg_succ,nl_app,leg_succ,nl_app]
   ·rw[upd_ne (ne_of_none e' hD0),upd_ne (ne_of_none e' hU)]
    exact sH _ _ e'
  ·have heq:it (parOf above) a m=it (parOf above) b m:=by
    by_cases e:it (parOf above) a m=it (parOf above) b m
    ·exact e
    ·refine absurd ?_ hne
     have:¬(V.int ((it (parOf above) a m:Nat):Int)=V.int ((it (parOf above) b m:Nat):Int)):=fun z=>e (by injection z with z;omega)
     rw[decide_eq_false this]
     rfl
   refine⟨_,rfl,_,rfl,_,rfl,_,rfl,D,_,rfl,SqL.of hD',fun l1 h1=>?_⟩
   rw[cut_last]
   refine⟨l1,_,rfl,SqL.of upd_same,fun l2 H2 s2 h2=>?_⟩
   have hU2:=s2 _ _ (same_new h1 (o:= .lst (nl (leg above b m))) _ _ hU')
   refine⟨U,l2,_,_,rfl,rfl,hU2,h2,(by rw[List.length_append,List.length_reverse,nl_len,nl_len,leg_len,leg_len,List.length_singleton];omega),fun l3 H3 s3 h3=>⟨l3,_,rfl,.inl h3,fun t H4 s4 ht=>?_⟩⟩
   refine q H4 t m (Same.trans (Same.trans (Same.trans (Same.trans sH (same_new h1)) s2) s3) s4) ?_ hm heq hf
   rw[ht]
   have e:nl (ring (parOf above) a b m)=nl (leg above a m)++[.int ((it (parOf above) a m:Nat):Int)]++(nl (leg above b m)).reverse:=by
    unfold ring
    rw[<-nl_app,<-leg_succ]
    unfold nl leg
    rw[List.map_append,List.map_reverse]
   rw[e]
end
inductive Ans where
 |ring (above:Nat->Option Nat) (a b:Nat)
 |sides (row:Nat->Option Int)
def goS(adjL:Nat->List Nat)(n:Nat):Nat->Nat->(Nat->Option Int)->(Nat->Option Nat)->Ans
 |0,_,row,_=> .sides row
 |f+1,r,row,ab=>if row r=none then(match(goW adjL n 0 (put row r (some 0)) ab [r]).clash with
   |some (a,b)=> .ring (goW adjL n 0 (put row r (some 0)) ab [r]).above a b
   |none=>goS adjL n f (r+1) (goW adjL n 0 (put row r (some 0)) ab [r]).row (goW adjL n 0 (put row r (some 0)) ab [r]).above)else goS adjL n f (r+1) row ab
theorem goS_some(adjL:Nat->List Nat)(n f r:Nat)(row:Nat->Option Int)(ab:Nat->Option Nat)(h:row r≠none):goS adjL n (f+1) r row ab=goS adjL n f (r+1) row ab:=by
 show(if row r=none then _ else _)=_
 rw[if_neg h]
theorem goS_none(adjL:Nat->List Nat)(n f r:Nat)(row row':Nat->Option Int)(ab ab':Nat->Option Nat)(h:row r=none)(hW:goW adjL n 0 (put row r (some 0)) ab [r]=⟨none,row',ab'⟩):goS adjL n (f+1) r row ab=goS adjL n f (r+1) row' ab':=by
 show(if row r=none then _ else _)=_
 rw[if_pos h,hW]
theorem goS_ring(adjL:Nat->List Nat)(n f r a b:Nat)(row row':Nat->Option Int)(ab ab':Nat->Option Nat)(h:row r=none)(hW:goW adjL n 0 (put row r (some 0)) ab [r]=⟨some (a,b),row',ab'⟩):goS adjL n (f+1) r row ab= .ring ab' a b:=by
 show(if row r=none then _ else _)=_
 rw[if_pos h,hW]
abbrev no1:Nat->Option Int:=fun _=>none
abbrev no2:Nat->Option Nat:=fun _=>none
theorem rep_none(N:Nat):(List.replicate N ([.non]:List V)).flatten=ol no1 N:=by
 induction N with
 |zero=>rfl
 |succ n ih=>
  rw[List.replicate_succ',List.flatten_append,ih]
  unfold ol
  rw[List.range_succ,List.map_append]
  rfl
section
variable{P:Program}{w:World}{K:PySem.W.Frag}{mg:Str->Option Value}{base:Heap}{Pt c:Addr}
abbrev sSd:Stmt:=top 45
abbrev nSd:List Str:=["net","tied","row","above","root","clash"]
def spSd:Sp:=fun vs H Q _=>∃p n qa ts es,vs=[.ref p]/\NetZ H p n qa ts es/\
 (∀H' t r row',Same H H'->H' t=some (.tup [.str "sides",.ref r])->H' r=some (.tup (ol row' n))->(∃V rt,Out (adjF es es.length) V row' rt n)->goS (adjF es es.length) n n 0 no1 no2= .sides row'->Q (.ref t) H')/\
 ∀H' t r above a b m,Same H H'->H' t=some (.tup [.str "ring",.ref r])->H' r=some (.tup (nl (ring (parOf above) a b m)))->goS (adjF es es.length) n n 0 no1 no2= .ring above a b->
  it (parOf above) a m=it (parOf above) b m->(∀i,i<m->it (parOf above) a i≠it (parOf above) b i)->
  (1<=m/\(∀x∈ring (parOf above) a b m,x<n)/\(ring (parOf above) a b m).Nodup/\∀k,k<2*m+1->(ring (parOf above) a b m).getD k 0∈adjF es es.length ((ring (parOf above) a b m).getD (if k=0 then 2*m else k-1) 0))->Q (.ref t) H'
theorem scSd:FnScope nSd ["net"] (defScope sSd):=⟨rfl,rfl,rfl,by decide+kernel,rfl,by decide+kernel,by decide+kernel⟩
theorem adj_ne{H:Hp}{p q:Addr}{n:Nat}{ts:List V}{es:List (Nat×Nat)}(N:NetZ H p n q ts es)(x y:Nat)(h:y∈adjF es es.length x):x≠y:=by
 rw[mem_adjF]at h
 obtain⟨k,h1,h2⟩:=h
 have ab:=(N.ok _ (getD_mem h1)).2.2
 rcases h2 with z|z
 ·rw[z.1,z.2];exact ab
 ·rw[z.1,z.2];exact Ne.symm ab
theorem ok_sd{f:Addr}{fd:FuncData}(F:Fun K "sides" "sides" sSd f fd)(T:Bi mg)(FN:FnE P w K mg base "neighbours" ["net"] 1 spNb)(FS:FnE P w K mg base "spread" ["tied","row","above","root"] 1 spSpr)(FC:FnE P w K mg base "closed" ["above","one","other"] 1 spCl):FnOk P w K mg base CX0 2 f fd ["net"] spSd:=by
 refine F.ok scSd (fun vs H Q E h=>?_) (fun cdv A outer s H vs Q E hr h=>?_)
 ·obtain⟨p,n,q,ts,es,rfl,_⟩:=h
  rfl
 ·obtain⟨p,n,qa,ts,es,rfl,N,qS,qR⟩:=h
  refine⟨_,pss_cons (ps_set (i:=1) scSd.nd rfl (Or.inl rfl) (pe_fc FN hr (pa_c (pv 0) pa_nil)))
   (pss_cons (ps_set (i:=2) scSd.nd rfl (Or.inl rfl) (pe_op op_rep (pe_lst (pa_c pe_non pa_nil)) (pe_ix ix_tup (pv 0) pe_int (fun _ _=>rfl))))
   (pss_cons (ps_set (i:=3) scSd.nd rfl (Or.inl rfl) (pe_op op_rep (pe_lst (pa_c pe_non pa_nil)) (pe_ix ix_tup (pv 0) pe_int (fun _ _=>rfl))))
   (pss_cons (ps_for PassesOwn.never rfl (pi_range1 rfl T.range (pa_c (pe_ix ix_tup (pv 0) pe_int (fun _ _=>rfl)) pa_nil)) (pg_name (i:=4) scSd.nd rfl (Or.inl rfl))
    (pss_one (ps_if (pt_cmpR op_isN (pe_ix ix_list (pv 2) (pv 4) (fun _ _=>rfl)) pe_non (nomark _))
     (pss_cons (ps_asg pe_int (pg_sub (pv 2) (pv 4) set_listN))
     (pss_cons (ps_set (i:=5) scSd.nd rfl (Or.inl rfl) (pe_fc FS hr (pa_c (pv 1) (pa_c (pv 2) (pa_c (pv 3) (pa_c (pv 4) pa_nil))))))
     (pss_one (ps_if (pt_cmpR op_notN (pv 5) pe_non (nomark _)) (pss_one (ps_ret (pe_tupS (pa_c pe_str (pa_c (pe_fc FC hr (pa_c (pv 3) (pa_c (pe_ix ix_tup (pv 5) pe_int (fun _ _=>rfl)) (pa_c (pe_ix ix_tup (pv 5) pe_int (fun _ _=>rfl)) pa_nil)))) pa_nil))))) pss_nil))))
     pss_nil)))
   (pss_one (ps_ret (pe_tupS (pa_c pe_str (pa_c (pe_callTy call_tuple_ofS rfl T.tuple bTuple (pa_c (pv 2) pa_nil)) pa_nil)))))))),?_⟩
  have h60:=N.n60
  refine⟨_,rfl,p,n,qa,ts,es,rfl,N,fun H1 Ta tl s1 TA=>?_⟩
  have szn:1*((n:Int)).toNat<=sizeLine:=by rw[sizeLine_eq,Int.toNat_natCast];omega
  refine⟨(by show 1<=sizeLine;decide),fun b1 hb1=>?_⟩
  refine⟨_,rfl,p,_,_,_,rfl,rfl,SqT.of (same_new hb1 _ _ (s1 _ _ N.e1)),rfl,b1,(n:Int),_,rfl,rfl,upd_same,(by omega),(by omega),szn,fun Ra hRa=>?_⟩
  rw[Int.toNat_natCast,rep_none]
  have t1:=Same.trans (same_new (o:= .lst [.non]) hb1) (same_new (o:= .lst (ol no1 n)) hRa)
  refine⟨(by show 1<=sizeLine;decide),fun b2 hb2=>?_⟩
  have t2:=Same.trans t1 (same_new (o:= .lst [.non]) hb2)
  refine⟨_,rfl,p,_,_,_,rfl,rfl,SqT.of (t2 _ _ (s1 _ _ N.e1)),rfl,b2,(n:Int),_,rfl,rfl,upd_same,(by omega),(by omega),szn,fun Aa hAa=>?_⟩
  rw[Int.toNat_natCast,rep_none]
  have t3:=Same.trans t2 (same_new (o:= .lst (ol no1 n)) hAa)
  have fr:∀{H':Hp}{d:Addr},Same H1 H'->H' d=none->H1 d=none:=fun{H' d} s' h=>by
   cases z:H1 d with
   |none=>rfl
   |some o=>rw[s' d o z]at h;cases h
  have hRa1:H1 Ra=none:=fr (same_new hb1) hRa
  have hAa1:H1 Aa=none:=fr t2 hAa
  have hR0:(upd (upd (upd (upd H1 b1 (.lst [.non])) Ra (.lst (ol no1 n))) b2 (.lst [.non])) Aa (.lst (ol no1 n))) Ra=some (.lst (ol no1 n)):=Same.trans (same_new hb2) (same_new hAa) _ _ upd_same
  have hRA:Ra≠Aa:=fun z=>by
   subst z
   rw[same_new hb2 _ _ upd_same]at hAa
   cases hAa
  have tied:∀{H'},Same H1 H'->TiedAt H' Ta tl (adjF es es.length) n:=fun{H'} s'=>⟨s' _ _ TA.top,TA.len,fun i a e=>s' _ _ (TA.row i a e)⟩
  have hne:∀a∈Ta::tl,a≠Ra/\a≠Aa:=fun a ha=>by
   have hs:∃o,H1 a=some o:=by
    rcases List.mem_cons.mp ha with z|z
    ·exact⟨_,by rw[z];exact TA.top⟩
    ·obtain⟨i,hi,e⟩:=List.getElem_of_mem z
     exact⟨_,TA.row i a (by rw[List.getElem?_eq_getElem hi,e])⟩
   obtain⟨o,ho⟩:=hs
   exact⟨ne_of_none ho hRa1,ne_of_none ho hAa1⟩
  refine⟨_,rfl,p,_,_,_,rfl,rfl,SqT.of (t3 _ _ (s1 _ _ N.e1)),rfl,(n:Int),rfl,by omega,by omega,for_range (lo:=0) (n:=((n:Int)).toNat) (fun r σ H'=>∃row above V rt v4 v5,σ=[some (.ref p),some (.ref Ta),some (.ref Ra),some (.ref Aa),v4,v5]/\H' Ra=some (.lst (ol row n))/\H' Aa=some (.lst (ol (up1 above) n))/\Same H1 H'/\Out (adjF es es.length) V row rt r/\goS (adjF es es.length) n (n-r) r row above=goS (adjF es es.length) n n 0 no1 no2)
   ⟨no1,no2,_,_,none,none,rfl,hR0,upd_same,t3,Out.start,rfl⟩ (fun r σ H' hr'⟨row,above,V,rt,v4,v5,e,hR,hA,sH,O,hG⟩=>?_) (fun σ H'⟨row,above,V,rt,v4,v5,e,hR,hA,sH,O,hG⟩=>?_)⟩
  ·subst e
   rw[Int.toNat_natCast]at hr'
   have hstep:goS (adjF es es.length) n (n-r) r row above=goS (adjF es es.length) n (n-(r+1)+1) r row above:=by rw[show n-(r+1)+1=n-r by omega]
   rw[hstep]at hG
   refine⟨_,rfl,_,rfl,Ra,_,_,ov row r,rfl,rfl,SqL.of hR,(by rw[Int.zero_add];exact atI_nat (ol_get _ hr')),rfl,_,rfl,?_⟩
   refine ite2 (fun hz=>?_) (fun hz=>?_)
   ·have hz':row r=none:=ov_none.mp (of_decide_eq_true hz)
    refine⟨_,rfl,_,rfl,Ra,_,r,rfl,(by rw[Int.zero_add]),hR,by rw[ol_len];exact hr',?_⟩
    rw[ol_set]
    have sw:Same H1 (upd H' Ra (.lst (ol (put row r (some 0)) n))):=fun b o e=>by rw[upd_ne (ne_of_none e hRa1)];exact sH _ _ e
    refine⟨_,rfl,_,rfl,_,rfl,_,rfl,Ta,Ra,Aa,tl,adjF es es.length,V,row,above,n,r,(by rw[Int.zero_add];rfl),tied sw,upd_same,(by rw[upd_ne (Ne.symm hRA)];exact hA),hRA,hne,h60,BF.start (adjF_sym es es.length) (adjF_bnd N) O.shut hz' hr',fun H2 row' above' wt pl dep sm hR2 hA2 B=>⟨fun hl hW=>?_,fun t a b hW ht ha hb hab hd=>?_⟩⟩
    ·have s2:Same H1 H2:=fun b o e=>sm _ _ (sw _ _ e) (ne_of_none e hRa1) (ne_of_none e hAa1)
     rw[goS_none _ _ _ _ _ _ _ _ hz' hW]at hG
     obtain⟨rt',O'⟩:=O.walk B hl
     exact⟨_,rfl,rfl,_,rfl,iteF ⟨_,_,_,rt',_,_,rfl,hR2,hA2,s2,O',hG⟩⟩
    ·have s2:Same H1 H2:=fun b o e=>sm _ _ (sw _ _ e) (ne_of_none e hRa1) (ne_of_none e hAa1)
     rw[goS_ring _ _ _ _ _ _ _ _ _ _ hz' hW]at hG
     refine⟨_,rfl,rfl,_,rfl,iteT ?_⟩
     refine⟨_,rfl,_,rfl,t,_,_,_,rfl,rfl,SqT.of ht,rfl,_,rfl,t,_,_,_,rfl,rfl,SqT.of ht,rfl,Aa,adjF es es.length,V,row,row',n,r,above',wt,pl,dep,a,b,rfl,hA2,B,ha,hb,hd,h60,fun H3 t' m s3 ht' hm meet first=>⟨rfl,fun t2 H4 s4 ht2=>?_⟩⟩
     exact qR H4 t2 t' above' a b m (Same.trans (Same.trans (Same.trans s1 s2) s3) s4) ht2 (s4 _ _ ht') hG.symm meet first (B.ring_ok ha hb hd (adj_ne N _ _ hab) hab hm meet first)
   ·have hz':row r≠none:=fun z=>hz (decide_eq_true (ov_none.mpr z))
    rw[goS_some _ _ _ _ _ _ hz']at hG
    exact⟨row,above,V,rt,_,_,rfl,hR,hA,sH,O.skip hz',hG⟩
  ·subst e
   rw[Int.toNat_natCast]at O hG
   rw[Nat.sub_self]at hG
   refine⟨_,rfl,Ra,_,rfl,.inl hR,fun r H2 s2 hr2=>⟨rfl,fun t H3 s3 ht=>?_⟩⟩
   exact qS H3 t r row (Same.trans (Same.trans (Same.trans s1 sH) s2) s3) ht (s3 _ _ hr2) ⟨V,rt,O⟩ hG.symm
end
end Sd
namespace L2
open PySem PySem.Spec PyProof.Rows
theorem PS.nox{X:Cx}{st:Stmt}{t:TS}(h:PS X.nox st t):PS X st t:=fun pins s σ H D I hw=>
 wpAny_mono (h pins s σ H D (I.wish _) hw) (fun _ _ q=>q.unwish) fun _ _ z=>False.elim z
theorem for_enum{K:PySem.W.Frag}{a:Addr}{xs:List V}{g:TG}{tb:TS}{D:Ends}{σ:St}{H:Hp}(Pv:Nat->St->Hp->Prop)(h0:Pv 0 σ H)(hl:∀i σ H,i<=xs.length->Pv i σ H->SqT K H a xs)
  (hs:∀(i:Nat) x σ H,xs[i]?=some x->Pv i σ H->∀T H1,Same H H1->H1 T=some (.tup [.int (i:Int),x])->g (.ref T) σ H1 fun σ2 H2=>tb {D with nx:=Pv (i+1),ct:=Pv (i+1),bk:=D.nx} σ2 H2) (hd:∀σ H,Pv xs.length σ H->D.nx σ H):
  ∃W:Nat->Nat->St->Hp->Prop,(∃m,W 0 m σ H)/\∀i m σ H,W i m σ H->
   ((Ite K a).stop i H/\D.nx σ H)\/((Ite K a).go i H/\∃N:St->Hp->Prop,(∀σ' H',N σ' H'->∃m',m'<m/\W (i+1) m' σ' H')/\∀x H',(Ite K a).yld i H x H'->g x σ H' fun σ2 H2=>tb {D with nx:=N,ct:=N,bk:=D.nx} σ2 H2):=by
 refine⟨fun i m σ H=>m=xs.length-i/\i<=xs.length/\Pv i σ H,⟨xs.length,by simp,Nat.zero_le _,h0⟩,?_⟩
 rintro i m σ H ⟨rfl,hi,p⟩
 have q:=hl i σ H hi p
 by_cases hlt:i<xs.length
 ·refine .inr ⟨⟨xs,xs[i],q,by simp[hlt]⟩,Pv (i+1),fun σ' H' p'=>⟨xs.length-(i+1),by omega,rfl,hlt,p'⟩,fun x H' y=>?_⟩
  obtain⟨T,u,rfl,hT,rfl,hu⟩:=y
  exact hs i u σ H (hu xs q) p T _ (same_add hT) upd_same
 ·have e:i=xs.length:=by omega
  subst e
  exact .inl ⟨⟨xs,q,Nat.le_refl _⟩,hd σ H p⟩
end L2
namespace My
open PySem L2
def Two(es:List (Nat×Nat)):Prop:=∃col:Nat->Bool,∀e∈es,col e.1≠col e.2
theorem odd_ring{col:Nat->Bool}{r:List Nat}{m:Nat}(h:∀k,k<2*m+1->col (r.getD k 0)= !col (r.getD (if k=0 then 2*m else k-1) 0)):False:=by
 have key:∀k,k<=2*m->col (r.getD k 0)=(col (r.getD 0 0) !=decide (k%2=1)):=by
  intro k
  induction k with
  |zero=>intro _;cases col (r.getD 0 0)<;>rfl
  |succ k ih=>
   intro hk
   have h1:=h (k+1) (by omega)
   rw[if_neg (by omega),Nat.add_sub_cancel]at h1
   rw[h1,ih (by omega)]
   have:k%2=0\/k%2=1:=by omega
   rcases this with e|e
   ·rw[decide_eq_false (by omega),decide_eq_true (show(k+1)%2=1 by omega)];cases col (r.getD 0 0)<;>rfl
   ·rw[decide_eq_true e,decide_eq_false (by omega)];cases col (r.getD 0 0)<;>rfl
 have h0:=h 0 (by omega)
 rw[if_pos rfl,key (2*m) (Nat.le_refl _),decide_eq_false (by omega)]at h0
 revert h0
 cases col (r.getD 0 0)<;>simp
theorem adj_col{es:List (Nat×Nat)}{col:Nat->Bool}(hc:∀e∈es,col e.1≠col e.2) {x y:Nat} (h:y∈Sd.adjF es es.length x):col y= !col x:=by
 rw[Sd.mem_adjF]at h
 obtain⟨k,h1,h2⟩:=h
 have hn:=hc _ (getD_mem h1)
 rcases h2 with z|z
 ·rw[z.1,z.2];revert hn;cases col (es.getD k (0,0)).1<;>cases col (es.getD k (0,0)).2<;>simp
 ·rw[z.1,z.2];revert hn;cases col (es.getD k (0,0)).1<;>cases col (es.getD k (0,0)).2<;>simp
theorem sides_ring:¬(V.str "sides"=V.str "ring"):=by decide+kernel
def nrm(e:Nat×Nat):Nat×Nat:=(min e.1 e.2,max e.1 e.2)
def Twin(es:List (Nat×Nat)):Prop:=∃i j,i<j/\j<es.length/\nrm (es.getD i (0,0))=nrm (es.getD j (0,0))
structure RingAt(H:Hp)(es:List (Nat×Nat))(n:Nat)(v:V)(R:List Nat)(m:Nat):Prop where
 at_:∃r,v= .ref r/\H r=some (.tup (nl R))
 len:R.length=2*m+1
 pos:1<=m
 lt:∀x∈R,x<n
 nd:R.Nodup
 tied:∀k,k<2*m+1->R.getD k 0∈Sd.adjF es es.length (R.getD (if k=0 then 2*m else k-1) 0)
theorem RingAt.same{H H':Hp}{es:List (Nat×Nat)}{n:Nat}{v:V}{R:List Nat}{m:Nat}(h:RingAt H es n v R m)(s:Same H H'):RingAt H' es n v R m:=
 ⟨let⟨r,a,b⟩:=h.at_;⟨r,a,s _ _ b⟩,h.len,h.pos,h.lt,h.nd,h.tied⟩
def PairAt(H:Hp)(es:List (Nat×Nat))(v:V):Prop:=∃(u:Addr)(i j:Nat),v= .ref u/\H u=some (.tup [.int (i:Int),.int (j:Int)])/\i<j/\j<es.length/\nrm (es.getD i (0,0))=nrm (es.getD j (0,0))
theorem PairAt.same{H H':Hp}{es:List (Nat×Nat)}{v:V}(h:PairAt H es v)(s:Same H H'):PairAt H' es v:=
 let⟨u,i,j,a,b,c⟩:=h;⟨u,i,j,a,s _ _ b,c⟩
def AkP(at':Nat)(cR cP:Addr)(H:Hp)(es:List (Nat×Nat))(n:Nat)(R:Hp->Prop)(E:XK):Prop:=
 (at'=1->¬Two es->∀H' dx v rg m,Same H H'->H' dx=none->RingAt H' es n v rg m->E (.ref cR) (some dx) (upd H' dx (.xd [("ring",v)])))/\
 (at'=2->Twin es->∀H' dx v,Same H H'->H' dx=none->PairAt H' es v->E (.ref cP) (some dx) (upd H' dx (.xd [("pair",v)])))/\
 ((at'=1->Two es)->(at'=2->¬Twin es)->∀H',Same H H'->R H')
theorem AkP.same{at':Nat}{cR cP:Addr}{H H1:Hp}{es:List (Nat×Nat)}{n:Nat}{R:Hp->Prop}{E:XK}(h:AkP at' cR cP H es n R E)(s:Same H H1):AkP at' cR cP H1 es n R E:=
 ⟨fun a b H' dx v rg m s'=>h.1 a b H' dx v rg m (Same.trans s s'),fun a b H' dx v s'=>h.2.1 a b H' dx v (Same.trans s s'),fun a b H' s'=>h.2.2 a b H' (Same.trans s s')⟩
structure GrF(P:Program)(w:World)(K:PySem.W.Frag)(mg:Str->Option Value)(base:Heap)(x f:Str)(C:Addr):Prop where
 ex:∃D fI fdI,RX.XCl K C D/\PySem.W.findIn K (.ref C) "__init__"=some (some (.ref fI))/\PySem.W.isFn K (.ref fI)=true/\FnOk P w K mg base CX0 1 fI fdI ["self",f] (RX.spInit C f)/\L2.Binds K fdI ["self",f] []
 g:mg x=some (.ref C)
section
variable{P:Program}{w:World}{K:PySem.W.Frag}{mg:Str->Option Value}{base:Heap}{cR cP cT:Addr}
abbrev sIr:Stmt:=inClass (top 9) 0
theorem scIr:FnScope ["self","ring"] ["self","ring"] (defScope sIr):=⟨rfl,rfl,rfl,by decide+kernel,rfl,by decide+kernel,by decide+kernel⟩
theorem ok_ir{f C D:Addr}{fd:FuncData}(F:Fun K "__init__" "NotTwoSided.__init__" sIr f fd)(c:RX.XCl K C D)(hn:PySem.W.findIn K (.ref C) "ring"=some none):FnOk P w K mg base CX0 1 f fd ["self","ring"] (RX.spInit C "ring"):=by
 refine F.ok scIr (fun vs H Q E h=>?_) (fun cdv A outer s H vs Q E hr h=>?_)
 ·obtain⟨e,fv,y,rfl,_⟩:=h
  rfl
 ·obtain⟨e,fv,y,rfl,he,q⟩:=h
  refine⟨_,pss_one (RX.ps_fldX (pv 0) (pv 1) rfl),?_⟩
  exact⟨_,rfl,_,rfl,e,C,D,fv,rfl,he,c,hn,fun dx h1 h2=>q dx h1 h2⟩
abbrev sIp:Stmt:=inClass (top 10) 0
theorem scIp:FnScope ["self","pair"] ["self","pair"] (defScope sIp):=⟨rfl,rfl,rfl,by decide+kernel,rfl,by decide+kernel,by decide+kernel⟩
theorem ok_ip{f C D:Addr}{fd:FuncData}(F:Fun K "__init__" "NotPlain.__init__" sIp f fd)(c:RX.XCl K C D)(hn:PySem.W.findIn K (.ref C) "pair"=some none):FnOk P w K mg base CX0 1 f fd ["self","pair"] (RX.spInit C "pair"):=by
 refine F.ok scIp (fun vs H Q E h=>?_) (fun cdv A outer s H vs Q E hr h=>?_)
 ·obtain⟨e,fv,y,rfl,_⟩:=h
  rfl
 ·obtain⟨e,fv,y,rfl,he,q⟩:=h
  refine⟨_,pss_one (RX.ps_fldX (pv 0) (pv 1) rfl),?_⟩
  exact⟨_,rfl,_,rfl,e,C,D,fv,rfl,he,c,hn,fun dx h1 h2=>q dx h1 h2⟩
abbrev sIt:Stmt:=inClass (top 11) 0
theorem scIt:FnScope ["self","need"] ["self","need"] (defScope sIt):=⟨rfl,rfl,rfl,by decide+kernel,rfl,by decide+kernel,by decide+kernel⟩
theorem ok_it{f C D:Addr}{fd:FuncData}(F:Fun K "__init__" "TooFew.__init__" sIt f fd)(c:RX.XCl K C D)(hn:PySem.W.findIn K (.ref C) "need"=some none):FnOk P w K mg base CX0 1 f fd ["self","need"] (RX.spInit C "need"):=by
 refine F.ok scIt (fun vs H Q E h=>?_) (fun cdv A outer s H vs Q E hr h=>?_)
 ·obtain⟨e,fv,y,rfl,_⟩:=h
  rfl
 ·obtain⟨e,fv,y,rfl,he,q⟩:=h
  refine⟨_,pss_one (RX.ps_fldX (pv 0) (pv 1) rfl),?_⟩
  exact⟨_,rfl,_,rfl,e,C,D,fv,rfl,he,c,hn,fun dx h1 h2=>q dx h1 h2⟩
abbrev sLp:Stmt:=top 31
abbrev nLp:List Str:=["net","first","tie","ends","pair"]
def spLp:Sp:=fun vs H Q _=>∃(p:Addr)(n:Nat)(q:Addr)(ts:List V)(es:List (Nat×Nat)),vs=[.ref p]/\NetZ H p n q ts es/\(¬Twin es->∀H',Same H H'->Q .non H')/\(∀H' v,Same H H'->PairAt H' es v->Q v H')
theorem scLp:FnScope nLp ["net"] (defScope sLp):=⟨rfl,rfl,rfl,by decide+kernel,rfl,by decide+kernel,by decide+kernel⟩
theorem ok_lp{f:Addr}{fd:FuncData}(F:Fun K "like_pair" "like_pair" sLp f fd)(T:Bi mg)(hen:mg "enumerate"=none):FnOk P w K mg base CX0 1 f fd ["net"] spLp:=by
 refine F.ok scLp (fun vs H Q E h=>?_) (fun cdv A outer s H vs Q E hr h=>?_)
 ·obtain⟨p,n,q,ts,es,rfl,_⟩:=h
  rfl
 ·obtain⟨p,n,qa,ts,es,rfl,N,q0,q1⟩:=h
  have hu:=hu_of hr
  refine⟨_,pss_cons (ps_set (i:=1) scLp.nd rfl (Or.inl rfl) pe_dnewT)
   (pss_cons (ps_for PassesOwn.never rfl (pi_enum rfl hen (pa_c (pe_ix ix_tup (pv 0) pe_int (fun _ _=>rfl)) pa_nil) rfl) (pg_tup rfl (pgs_cons (pg_name (i:=2) scLp.nd rfl (Or.inl rfl)) (pgs_cons (pg_name (i:=3) scLp.nd rfl (Or.inl rfl)) pgs_nil)))
    (pss_cons (ps_set (i:=4) scLp.nd rfl (Or.inl rfl) (pe_tupS (pa_c (pe_callB (call_mins rfl) rfl T.min bMin (pa_c (pv 3) pa_nil)) (pa_c (pe_callB (call_maxs rfl) rfl T.max bMax (pa_c (pv 3) pa_nil)) pa_nil))))
    (pss_cons (ps_if (pt_cmp (pc_din hu (pv 4) (pv 1))) (pss_one (ps_ret (pe_tupS (pa_c (pe_dget hu (pv 1) (pv 4) (fun _ _=>rfl)) (pa_c (pv 2) pa_nil))))) pss_nil)
    (pss_one (ps_dput hu (pv 1) (pv 4) (pv 2) rfl)))))
   (pss_one (ps_ret pe_non))),?_⟩
  have h200:=N.l200
  have hlen:=N.len
  intro d hd
  have s0:Same H (upd H d (.dT [])):=same_new hd
  refine⟨_,rfl,p,_,_,_,rfl,rfl,SqT.of (s0 _ _ N.e1),rfl,qa,rfl,⟨_,SqT.of (s0 _ _ N.e2)⟩,for_enum (K:=K) (a:=qa) (xs:=ts) (fun i σ G=>∃(kvs:List (List Key×V))(v2 v3 v4:Option V),σ=[some (.ref p),some (.ref d),v2,v3,v4]/\Same H G/\G d=some (.dT kvs)/\kvs.length<=i/\(∀j,j<i->∃v,valV kvs (ky (nrm (es.getD j (0,0))).1 (nrm (es.getD j (0,0))).2)=some v)/\(∀a b v,valV kvs (ky a b)=some v->∃j,j<i/\v= .int (j:Int)/\nrm (es.getD j (0,0))=(a,b))/\(∀j k,j<k->k<i->nrm (es.getD j (0,0))≠nrm (es.getD k (0,0))))
   ⟨[],_,_,_,rfl,s0,upd_same,Nat.le_refl _,(fun j hj=>absurd hj (Nat.not_lt_zero _)),(fun a b v z=>by cases z),fun j k _ hk=>absurd hk (Nat.not_lt_zero _)⟩ (fun i σ G _⟨kvs,_,_,_,_,sG,_⟩=>SqT.of (sG _ _ N.e2)) (fun i x σ G hx⟨kvs,v2,v3,v4,e,sG,hD,hkv,hK1,hK2,hK3⟩ TT G1 s1 hTT=>?_) (fun σ G⟨kvs,v2,v3,v4,e,sG,hD,hkv,hK1,hK2,hK3⟩=>?_)⟩
  ·subst e
   have hi:i<es.length:=by rw[<-hlen];exact(List.getElem?_eq_some_iff.mp hx).1
   obtain⟨a,rfl,ha⟩:=N.tie i x hx
   have sG1:=Same.trans sG s1
   refine⟨TT,_,rfl,SqT.of hTT,rfl,_,_,rfl,_,_,rfl,rfl,?_⟩
   obtain⟨A1,hA⟩:∃A1,(es.getD i (0,0)).1=A1:=⟨_,rfl⟩
   obtain⟨B1,hB⟩:∃B1,(es.getD i (0,0)).2=B1:=⟨_,rfl⟩
   rw[hA,hB]at ha
   have hn:nrm (es.getD i (0,0))=(min A1 B1,max A1 B1):=by unfold nrm;rw[hA,hB]
   refine⟨_,rfl,a,[(A1:Int),(B1:Int)],rfl,.inr (SqT.of (sG1 _ _ ha)),(by show 0<2;decide),fun M1 m1 m2=>?_⟩
   refine⟨_,rfl,a,[(A1:Int),(B1:Int)],rfl,.inr (SqT.of (sG1 _ _ ha)),(by show 0<2;decide),fun M2 m3 m4=>?_⟩
   have e1:M1=((min A1 B1:Nat):Int):=by
    have h1:=m2 (A1:Int) (.head _)
    have h2:=m2 (B1:Int) (.tail _ (.head _))
    simp only[List.mem_cons,List.not_mem_nil,or_false]at m1
    omega
   have e2:M2=((max A1 B1:Nat):Int):=by
    have h1:=m4 (A1:Int) (.head _)
    have h2:=m4 (B1:Int) (.tail _ (.head _))
    simp only[List.mem_cons,List.not_mem_nil,or_false]at m3
    omega
   subst e1 e2
   refine⟨rfl,fun u G2 s2 hu'=>?_⟩
   have sG2:=Same.trans sG1 s2
   have hD2:=s2 _ _ (s1 _ _ hD)
   refine⟨_,rfl,_,rfl,d,_,rfl,DGet.t (k:=ky (min A1 B1) (max A1 B1)) hD2 hu',_,rfl,?_⟩
   cases hv:valV kvs (ky (min A1 B1) (max A1 B1))with
   |some v=>
    obtain⟨j,hj,rfl,hnj⟩:=hK2 _ _ _ hv
    have hg:=DGet.t (k:=ky (min A1 B1) (max A1 B1)) hD2 hu'
    rw[hv]at hg
    refine iteT ⟨_,rfl,_,rfl,d,_,rfl,hg,_,rfl,rfl,fun t G3 s3 ht=>?_⟩
    exact q1 G3 (.ref t) (Same.trans sG2 s3) ⟨t,j,i,rfl,ht,hj,hi,by rw[hnj,hn]⟩
   |none=>
    have l1:=length_putK kvs (ky (min A1 B1) (max A1 B1)) (V.int (i:Int))
    refine iteF ⟨_,rfl,_,rfl,_,rfl,d,_,rfl,DPut.t (k:=ky (min A1 B1) (max A1 B1)) hD2 hu' (by rw[sizeLine_eq];omega),?_⟩
    refine⟨_,_,_,_,rfl,sG2.wr hd,upd_same,by omega,fun j hj=>?_,fun a' b' v hv'=>?_,fun j k hjk hk=>?_⟩
    ·rw[valV_put]
     split
     ·exact⟨_,rfl⟩
     ·next hne=>
      rcases Nat.lt_succ_iff_lt_or_eq.mp hj with z|z
      ·exact hK1 j z
      ·subst z
       exact absurd (by rw[hn]) hne
    ·rw[valV_put]at hv'
     split at hv'
     ·next he=>
      cases hv'
      obtain⟨z1,z2⟩:=ky_inj he
      exact⟨i,Nat.lt_succ_self _,rfl,by rw[hn,z1,z2]⟩
     ·obtain⟨j,z1,z2,z3⟩:=hK2 _ _ _ hv'
      exact⟨j,by omega,z2,z3⟩
    ·rcases Nat.lt_succ_iff_lt_or_eq.mp hk with z|z
     ·exact hK3 j k hjk z
     ·subst z
      intro he
      obtain⟨v,hv2⟩:=hK1 j hjk
      rw[he,hn]at hv2
      rw[hv]at hv2
      cases hv2
  ·subst e
   rw[show ts.length=es.length from hlen]at hK3
   refine q0 (fun⟨i,j,h1,h2,h3⟩=>hK3 i j h1 h2 h3) G sG
abbrev sAkW:Stmt:=inClass (top 24) 1
abbrev sAkT:Stmt:=inClass (top 47) 1
abbrev sAkP:Stmt:=inClass (top 36) 1
def spAk(at':Nat)(cR cP:Addr):Sp:=fun vs H Q E=>∃(s p:Addr)(n:Nat)(q:Addr)(ts:List V)(es:List (Nat×Nat)),vs=[.ref s,.ref p]/\NetZ H p n q ts es/\AkP at' cR cP H es n (Q .non) E
theorem scAkW:FnScope ["self","net"] ["self","net"] (defScope sAkW):=⟨rfl,rfl,rfl,by decide+kernel,rfl,by decide+kernel,by decide+kernel⟩
theorem scAkT:FnScope ["self","net","told"] ["self","net"] (defScope sAkT):=⟨rfl,rfl,rfl,by decide+kernel,rfl,by decide+kernel,by decide+kernel⟩
theorem scAkP:FnScope ["self","net","pair"] ["self","net"] (defScope sAkP):=⟨rfl,rfl,rfl,by decide+kernel,rfl,by decide+kernel,by decide+kernel⟩
theorem ok_akW{f:Addr}{fd:FuncData}(F:Fun K "asked" "Way.asked" sAkW f fd){at':Nat}(h1:at'≠1)(h2:at'≠2):FnOk P w K mg base (RX.CXe P w) 1 f fd ["self","net"] (spAk at' cR cP):=by
 refine RX.funX_ok F scAkW (fun vs H Q E h=>?_) (fun cdv A outer s H vs Q E hr h=>?_)
 ·obtain⟨s,p,n,q,ts,es,rfl,_⟩:=h
  rfl
 ·obtain⟨s,p,n,q,ts,es,rfl,N,h⟩:=h
  exact⟨_,pss_one (ps_ret pe_non),h.2.2 (fun z=>absurd z h1) (fun z=>absurd z h2) H (Same.refl H)⟩
theorem ok_akT{f:Addr}{fd:FuncData}(F:Fun K "asked" "TwoSided.asked" sAkT f fd)(G:GrF P w K mg base "NotTwoSided" "ring" cR)(FS:FnE P w K mg base "sides" ["net"] 2 Sd.spSd):FnOk P w K mg base (RX.CXe P w) 3 f fd ["self","net"] (spAk 1 cR cP):=by
 obtain⟨D,fI,fdI,c,hi,hfn,FI,hb⟩:=G.ex
 refine RX.funX_ok (k:=2) F scAkT (fun vs H Q E h=>?_) (fun cdv A outer s H vs Q E hr h=>?_)
 ·obtain⟨s,p,n,q,ts,es,rfl,_⟩:=h
  rfl
 ·obtain⟨sf,p,n,qa,ts,es,rfl,N,q1,_,q3⟩:=h
  have hr2:Room 2 _:=hr.mono (by omega)
  refine⟨_,pss_cons (PS.nox (ps_set (i:=2) scAkT.nd rfl (Or.inl rfl) (pe_fc FS hr2 (pa_c (pv 1) pa_nil)))) (pss_cons (ps_if (PT.nox (pt_cmpR op_eq (pe_ix ix_tup (pv 2) pe_int (fun _ _=>rfl)) pe_str (nomark _))) (pss_one (RX.ps_raiseF c hi hfn FI hr hb rfl G.g (pa_c (pe_ix ix_tup (pv 2) pe_int (fun _ _=>rfl)) pa_nil) rfl rfl rfl (fun _ _ h=>h))) pss_nil) (pss_one (ps_ret pe_non))),?_⟩
  refine⟨_,rfl,p,n,qa,ts,es,rfl,⟨N.e1,N.e2,N.len,N.tie,N.l200,N.n60,N.ok⟩,fun H' t r row' s' ht hr' ho _=>?_,fun H' t r above a b m s' ht hr' _ _ _ hx=>?_⟩
  ·refine⟨_,rfl,t,_,_,_,rfl,rfl,SqT.of ht,rfl,rfl,_,rfl,?_⟩
   refine ite2 (fun z=>absurd (of_decide_eq_true z) sides_ring) (fun _=>?_)
   refine q3 (fun _=>?_) (fun z=>absurd z (by decide)) H' s'
   obtain⟨V0,rt,O⟩:=ho
   refine⟨fun x=>decide (row' x=some 0),fun e he=>?_⟩
   obtain⟨k,hk⟩:=List.getElem?_of_mem he
   have hk1:=(List.getElem?_eq_some_iff.mp hk).1
   have hke:es.getD k (0,0)=e:=by rw[List.getD_eq_getElem?_getD,hk];rfl
   have hadj:e.2∈Sd.adjF es es.length e.1:=(Sd.mem_adjF es e.1 e.2 es.length).mpr ⟨k,hk1,.inl ⟨by rw[hke],by rw[hke]⟩⟩
   have hV:=O.all e.1 (N.ok e he).1
   obtain⟨hV2,hne⟩:=O.shut.cl _ hV _ hadj
   rcases O.bit _ hV with z1|z1<;>rcases O.bit _ hV2 with z2|z2
   ·exact absurd (z2.trans z1.symm) hne
   ·dsimp only;rw[z1,z2];decide
   ·dsimp only;rw[z1,z2];decide
   ·exact absurd (z2.trans z1.symm) hne
  ·refine⟨_,rfl,t,_,_,_,rfl,rfl,SqT.of ht,rfl,rfl,_,rfl,iteT ?_⟩
   refine⟨_,rfl,t,_,_,_,rfl,rfl,SqT.of ht,rfl,_,rfl,fun dx hdx=>?_⟩
   refine q1 rfl (fun⟨col,hc⟩=>odd_ring (col:=col) fun k hk=>adj_col hc (hx.2.2.2 k hk)) H' dx (.ref r) (Sd.ring (Sd.parOf above) a b m) m s' hdx ⟨⟨r,rfl,hr'⟩,Sd.ring_len _ _ _ _,hx.1,hx.2.1,hx.2.2.1,hx.2.2.2⟩
theorem ok_akP{f:Addr}{fd:FuncData}(F:Fun K "asked" "Plain.asked" sAkP f fd)(G:GrF P w K mg base "NotPlain" "pair" cP)(FL:FnE P w K mg base "like_pair" ["net"] 1 spLp):FnOk P w K mg base (RX.CXe P w) 3 f fd ["self","net"] (spAk 2 cR cP):=by
 obtain⟨D,fI,fdI,c,hi,hfn,FI,hb⟩:=G.ex
 refine RX.funX_ok (k:=2) F scAkP (fun vs H Q E h=>?_) (fun cdv A outer s H vs Q E hr h=>?_)
 ·obtain⟨s,p,n,q,ts,es,rfl,_⟩:=h
  rfl
 ·obtain⟨sf,p,n,qa,ts,es,rfl,N,_,q2,q3⟩:=h
  have hr1:Room 1 _:=hr.mono (by omega)
  refine⟨_,pss_cons (PS.nox (ps_set (i:=2) scAkP.nd rfl (Or.inl rfl) (pe_fc FL hr1 (pa_c (pv 1) pa_nil)))) (pss_cons (ps_if (PT.nox (pt_cmpR op_notN (pv 2) pe_non (nomark _))) (pss_one (RX.ps_raiseF c hi hfn FI hr hb rfl G.g (pa_c (pv 2) pa_nil) rfl rfl rfl (fun _ _ h=>h))) pss_nil) (pss_one (ps_ret pe_non))),?_⟩
  refine⟨_,rfl,p,n,qa,ts,es,rfl,N,fun ht H' s'=>?_,fun H' v s' hv=>?_⟩
  ·exact⟨_,rfl,rfl,_,rfl,iteF (q3 (fun z=>absurd z (by decide)) (fun _=>ht) H' s')⟩
  ·obtain⟨u,i,j,rfl,h1,h2,h3,h4⟩:=hv
   refine⟨_,rfl,rfl,_,rfl,iteT ⟨_,rfl,_,rfl,fun dx hdx=>?_⟩⟩
   exact q2 rfl ⟨i,j,h2,h3,h4⟩ H' dx (.ref u) s' hdx ⟨u,i,j,rfl,h1,h2,h3,h4⟩
def g0(m:Int):Int:=if 0>2*m-1 then 0 else 2*m-1
def g1(m:Int):Int:=m
def g2(m:Int):Int:=if m>0 then m+1 else 0
def g3(m:Int):Int:=3*m/2
def spN(g:Int->Int):Sp:=fun vs H Q _=>∃(p:Addr)(m:Int),vs=[.ref p,.int m]/\0<=m/\Q (.int (g m)) H
abbrev sW:Stmt:=inClass (top 24) 0
abbrev sP:Stmt:=inClass (top 36) 0
abbrev sM:Stmt:=inClass (top 40) 0
abbrev sT:Stmt:=inClass (top 47) 0
theorem scW:FnScope ["self","most"] ["self","most"] (defScope sW):=⟨rfl,rfl,rfl,by decide+kernel,rfl,by decide+kernel,by decide+kernel⟩
theorem scP:FnScope ["self","most"] ["self","most"] (defScope sP):=⟨rfl,rfl,rfl,by decide+kernel,rfl,by decide+kernel,by decide+kernel⟩
theorem scM:FnScope ["self","most"] ["self","most"] (defScope sM):=⟨rfl,rfl,rfl,by decide+kernel,rfl,by decide+kernel,by decide+kernel⟩
theorem scT:FnScope ["self","most"] ["self","most"] (defScope sT):=⟨rfl,rfl,rfl,by decide+kernel,rfl,by decide+kernel,by decide+kernel⟩
theorem ok_W{f:Addr}{fd:FuncData}(F:Fun K "needed" "Way.needed" sW f fd)(T:Bi mg):FnOk P w K mg base CX0 1 f fd ["self","most"] (spN g0):=by
 refine F.ok scW (fun vs H Q E h=>?_) (fun cdv A outer s H vs Q E hr h=>?_)
 ·obtain⟨p,m,rfl,_⟩:=h
  rfl
 ·obtain⟨p,m,rfl,h0,q⟩:=h
  refine⟨_,pss_one (ps_ret (pe_callB (call_max2 rfl) rfl T.max bMax (pa_c (pe_op op_sub (pe_op op_mul pe_int (pv 1)) pe_int) (pa_c pe_int pa_nil)))),?_⟩
  exact⟨_,rfl,_,_,rfl,rfl,.inl ⟨by decide,by decide⟩,_,_,rfl,rfl,_,_,rfl,q⟩
theorem ok_M{f:Addr}{fd:FuncData}(F:Fun K "needed" "Manifold.needed" sM f fd):FnOk P w K mg base CX0 1 f fd ["self","most"] (spN g3):=by
 refine F.ok scM (fun vs H Q E h=>?_) (fun cdv A outer s H vs Q E hr h=>?_)
 ·obtain⟨p,m,rfl,_⟩:=h
  rfl
 ·obtain⟨p,m,rfl,h0,q⟩:=h
  refine⟨_,pss_one (ps_ret (pe_op op_fdiv (pe_op op_mul pe_int (pv 1)) pe_int)),?_⟩
  exact⟨_,rfl,_,_,rfl,rfl,.inl ⟨by decide,by decide⟩,_,_,rfl,rfl,⟨by decide,by decide⟩,q⟩
theorem ok_T{f:Addr}{fd:FuncData}(F:Fun K "needed" "TwoSided.needed" sT f fd):FnOk P w K mg base CX0 1 f fd ["self","most"] (spN g1):=by
 refine F.ok scT (fun vs H Q E h=>?_) (fun cdv A outer s H vs Q E hr h=>?_)
 ·obtain⟨p,m,rfl,_⟩:=h
  rfl
 ·obtain⟨p,m,rfl,h0,q⟩:=h
  exact⟨_,pss_one (ps_ret (pv 1)),_,rfl,q⟩
theorem ok_P{f:Addr}{fd:FuncData}(F:Fun K "needed" "Plain.needed" sP f fd):FnOk P w K mg base CX0 1 f fd ["self","most"] (spN g2):=by
 refine F.ok scP (fun vs H Q E h=>?_) (fun cdv A outer s H vs Q E hr h=>?_)
 ·obtain⟨p,m,rfl,_⟩:=h
  rfl
 ·obtain⟨p,m,rfl,h0,q⟩:=h
  refine⟨_,pss_one (ps_ret (pe_ifExp (pt_cmpR op_gt (pv 1) pe_int (nomark _)) (pe_op op_add (pv 1) pe_int) pe_int)),?_⟩
  refine⟨_,rfl,_,_,rfl,rfl,_,rfl,?_⟩
  unfold g2 at q
  refine ite2 (fun hz=>?_) (fun hz=>?_)
  ·have:m>0:=of_decide_eq_true hz
   rw[if_pos this]at q
   exact⟨_,rfl,_,_,rfl,rfl,q⟩
  ·have:¬m>0:=fun z=>hz (decide_eq_true z)
   rw[if_neg this]at q
   exact q
end
def nd:Nat->Int->Int
 |0=>g0
 |1=>g1
 |2=>g2
 |_=>g3
def NoT(es:List (Nat×Nat))(tl:List (Option Nat))(x:V):Prop:=bel x (es.length:Int)=false\/∃k y:Nat,x= .int (k:Int)/\tl[k]?=some (some y)
theorem both_pos{es:List (Nat×Nat)}{tl:List (Option Nat)}{a b m:Nat}(hb:∀(j:Nat) o,tl[j]?=some o->o=none) (hm:0<m):0<(both es tl a b m).length:=by
 refine List.length_pos_of_mem (a:=0) (both_mem.mpr ⟨hm,fun⟨j,_,h,_⟩=>?_,fun⟨j,_,h,_⟩=>?_⟩)
 ·cases hb j _ h
 ·cases hb j _ h
theorem bel_nat{k L:Nat}(h:k<L):bel (.int (k:Int)) (L:Int)=true:=by
 show(decide (0<=(k:Int))&&decide ((k:Int)<(L:Int)))=true
 rw[decide_eq_true (by omega),decide_eq_true (by omega)]
 rfl
theorem bel_get{x:V}{L:Nat}(h:bel x (L:Int)=true):∃k:Nat,x= .int (k:Int)/\k<L:=by
 cases x with
 |int i=>
  have h':(decide (0<=i)&&decide (i<(L:Int)))=true:=h
  rw[Bool.and_eq_true]at h'
  have h1:=of_decide_eq_true h'.1
  have h2:=of_decide_eq_true h'.2
  exact⟨i.toNat,by rw[Int.toNat_of_nonneg h1],by omega⟩
 |_=>cases h
section
variable{P:Program}{w:World}{K:PySem.W.Frag}{mg:Str->Option Value}{base:Heap}{C cN cR cP cT:Addr}
abbrev sPut:Stmt:=inClass (top 24) 2
abbrev nPut:List Str:=["self","net","tints","tie","many","need","ends","shared"]
abbrev pPut:List Str:=["self","net","tints","tie","many"]
theorem scPut:FnScope nPut pPut (defScope sPut):=⟨rfl,rfl,rfl,by decide+kernel,rfl,by decide+kernel,by decide+kernel⟩
def Tell(at':Nat)(cT:Addr)(m:Nat)(es:List (Nat×Nat))(n:Nat)(Q:VK)(E:XK)(H:Hp):Prop:=∀M,IsMax (dl es n) M->
 ((m:Int)<nd at' M->∀H' dx,Same H H'->H' dx=none->E (.ref cT) (some dx) (upd H' dx (.xd [("need",.int (nd at' M))])))/\
 (nd at' M<=(m:Int)->∀H' l xs,Same H H'->H' l=some (.lst xs)->xs.length=1->Q (.ref l) H')
def spPut(at':Nat)(C cN cR cP cT:Addr):Sp:=fun vs H Q E=>∃(s p r:Addr)(n:Nat)(q:Addr)(ts:List V)(es:List (Nat×Nat))(tl:List (Option Nat))(x:V)(m:Nat)(dx:Addr),vs=[.ref s,.ref p,.ref r,x,.int (m:Int)]/\H s=some (.ins C dx [])/\NetZ H p n q ts es/\H r=some (.tup (tv tl))/\tl.length=es.length/\m<=1000/\Kn H x/\
 (NoT es tl x->E (.ref cN) none H)/\(¬NoT es tl x->(∀(j:Nat) o,tl[j]?=some o->o=none)/\(∀M,IsMax (dl es n) M->0<nd at' M)/\AkP at' cR cP H es n (Tell at' cT m es n Q E) E)
theorem ok_put{at':Nat}{f fA:Addr}{fd fdA:FuncData}{D:Addr}(F:Fun K "put" "Way.put" sPut f fd)(T:Bi mg)(c:RX.xcIn K cN D=true)(cn:RX.xnIn K cN=true)(kp:PySem.W.keepIn K (.ref cN)=true)(gN:mg "NoTie"=some (.ref cN))(G:GrF P w K mg base "TooFew" "need" cT)
  (FBl:FnE P w K mg base "is_below" ["thing","bound"] 2 spBel2)(FMo:FnE P w K mg base "most_of" ["net"] 1 spMo)(FFb:FnE P w K mg base "free_at_both" ["net","tints","one","other","many"] 3 spFb)
  (hC:Cls K C)(hA:Meth K C "asked" fA)(FA:FnOk P w K mg base (RX.CXe P w) 3 fA fdA ["self","net"] (spAk at' cR cP))(bA:L2.Binds K fdA ["self","net"] [])(MN:MeE P w K mg base C "needed" ["self","most"] 1 (spN (nd at'))):
  FnOk P w K mg base (RX.CXe P w) 4 f fd pPut (spPut at' C cN cR cP cT):=by
 obtain⟨DT,fI,fdI,cx,hi,hfn,FI,hb⟩:=G.ex
 refine RX.funX_ok (k:=3) F scPut (fun vs H Q E h=>?_) (fun cdv A outer s H vs Q E hr h=>?_)
 ·obtain⟨s,p,r,n,q,ts,es,tl,x,m,dx,rfl,_⟩:=h
  rfl
 ·obtain⟨sf,p,r,n,qa,ts,es,tl,x,m,dx,rfl,hs,N,hR,htl,hm,hKn,q1,q2⟩:=h
  have hr1:Room 1 _:=hr.mono (by omega)
  have hr2:Room 2 _:=hr.mono (by omega)
  have hlen:=N.len
  refine⟨_,pss_cons (ps_if (PT.nox (PW.pt (pw_or (pt_not (pt_val (pe_fc FBl hr2 (pa_c (pv 3) (pa_c (pe_callB call_len_seq rfl T.len bLen (pa_c (pe_ix ix_tup (pv 1) pe_int (fun _ _=>rfl)) pa_nil)) pa_nil))))) (pw_or1 (pt_cmpR op_notN (pe_ix ix_tup (pv 2) (pv 3) (fun _ _=>rfl)) pe_non (nomark _)))))) (pss_one (RX.ps_raise0 c cn kp hr rfl gN rfl rfl rfl (fun _ _ h=>h))) pss_nil)
   (pss_cons (ps_expr (pe_meth (pv 0) hC hA FA hr bA .nil (RX.passX fun _ _ _ z=>z) (pa_c (pv 1) pa_nil)))
   (pss_cons (PS.nox (ps_set (i:=5) scPut.nd rfl (Or.inl rfl) (pe_me MN hr1 (pv 0) (pa_c (pe_fc FMo hr1 (pa_c (pv 1) pa_nil)) pa_nil))))
   (pss_cons (ps_if (PT.nox (pt_cmpR op_lt (pv 4) (pv 5) (nomark _))) (pss_one (RX.ps_raiseF cx hi hfn FI hr2 hb rfl G.g (pa_c (pv 5) pa_nil) rfl rfl rfl (fun _ _ h=>h))) pss_nil)
   (pss_cons (PS.nox (ps_set (i:=6) scPut.nd rfl (Or.inl rfl) (pe_ix ix_tup (pe_ix ix_tup (pv 1) pe_int (fun _ _=>rfl)) (pv 3) (fun _ _=>rfl))))
   (pss_cons (PS.nox (ps_set (i:=7) scPut.nd rfl (Or.inl rfl) (pe_fc FFb hr (pa_c (pv 1) (pa_c (pv 2) (pa_c (pe_ix ix_tup (pv 6) pe_int (fun _ _=>rfl)) (pa_c (pe_ix ix_tup (pv 6) pe_int (fun _ _=>rfl)) (pa_c (pv 4) pa_nil))))))))
   (pss_cons (ps_if (PT.nox (pt_truth (pv 7) (fun _=>rfl))) (pss_one (ps_ret (pe_lstS (pa_c (pe_tupS (pa_c pe_str (pa_c (pv 3) (pa_c (pe_ix ix_tup (pv 7) pe_int (fun _ _=>rfl)) pa_nil)))) pa_nil)))) pss_nil)
   pss_never)))))),?_⟩
  refine⟨_,rfl,_,rfl,p,_,_,_,rfl,rfl,SqT.of N.e1,rfl,qa,_,rfl,.inr (SqT.of N.e2),x,_,rfl,hKn,_,rfl,?_⟩
  rw[hlen]
  by_cases hnt:NoT es tl x
  ·have qx:=q1 hnt
   rcases hnt with hb0|⟨k,y,rfl,hk⟩
   ·rw[hb0]
    exact iteT (iteT qx)
   ·by_cases hkl:k<es.length
    ·rw[bel_nat hkl]
     refine iteF ⟨_,rfl,_,rfl,r,_,_,_,rfl,rfl,SqT.of hR,atI_nat (tv_get hk),rfl,_,rfl,iteT qx⟩
    ·have hb0:bel (.int (k:Int)) (es.length:Int)=false:=by
      show(decide (0<=(k:Int))&&decide ((k:Int)<(es.length:Int)))=false
      rw[decide_eq_false (p:=(k:Int)<(es.length:Int)) (by omega),Bool.and_false]
     rw[hb0]
     exact iteT (iteT qx)
  ·obtain⟨hbare,hpos,hak⟩:=q2 hnt
   have hb1:bel x (es.length:Int)=true:=by
    cases z:bel x (es.length:Int)with
    |true=>rfl
    |false=>exact absurd (.inl z) hnt
   obtain⟨k,rfl,hk⟩:=bel_get hb1
   rw[hb1]
   obtain⟨o,ho⟩:∃o,tl[k]?=some o:=⟨_,List.getElem?_eq_getElem (by omega)⟩
   have hon:=hbare k o ho
   subst hon
   refine iteF ⟨_,rfl,_,rfl,r,_,_,_,rfl,rfl,SqT.of hR,atI_nat (tv_get ho),rfl,_,rfl,iteF ?_⟩
   refine⟨_,rfl,sf,dx,_,rfl,hs,rfl,_,rfl,sf,p,n,qa,ts,es,rfl,N,hak.1,hak.2.1,fun a1 a2 H0 s0=>?_⟩
   have ht:=hak.2.2 a1 a2 H0 s0
   refine⟨_,rfl,sf,dx,_,rfl,s0 _ _ hs,rfl,_,rfl,p,n,qa,ts,es,rfl,N.same s0,fun H1 M s1 hMx=>⟨sf,M,rfl,(most_nn hMx).1,?_⟩⟩
   obtain⟨t1,t2⟩:=ht M hMx
   have hp0:=hpos M hMx
   have s01:=Same.trans s0 s1
   refine⟨_,rfl,_,rfl,_,_,rfl,rfl,_,rfl,?_⟩
   refine ite2 (fun z=>?_) (fun z=>?_)
   ·exact⟨_,rfl,_,rfl,fun dx' hdx=>t1 (of_decide_eq_true z) H1 dx' s1 hdx⟩
   ·have hle:nd at' M<=(m:Int):=by
     have:¬(m:Int)<nd at' M:=fun y=>z (decide_eq_true y)
     omega
    have N1:=N.same s01
    obtain⟨tk,htk,hta⟩:=N1.at' hk
    refine⟨_,rfl,p,_,_,_,rfl,rfl,SqT.of N1.e1,rfl,_,rfl,qa,_,_,_,rfl,rfl,SqT.of N1.e2,atI_nat htk,?_⟩
    refine⟨_,rfl,_,rfl,_,rfl,tk,_,_,_,rfl,rfl,SqT.of hta,rfl,_,rfl,tk,_,_,_,rfl,rfl,SqT.of hta,rfl,_,rfl,p,r,n,qa,ts,es,tl,(es.getD k (0,0)).1,(es.getD k (0,0)).2,m,rfl,N1,s01 _ _ hR,htl,hm,fun H2 t s2 ht=>?_⟩
    have h0:0<(both es tl (es.getD k (0,0)).1 (es.getD k (0,0)).2 m).length:=both_pos hbare (by omega)
    refine⟨_,rfl,true,.inr (.inl ⟨_,SqT.of ht,?_⟩),iteT ?_⟩
    ·cases hz:both es tl (es.getD k (0,0)).1 (es.getD k (0,0)).2 m with
     |nil=>rw[hz]at h0;cases h0
     |cons _ _=>rfl
    ·obtain⟨b0,hb0⟩:∃b0,(both es tl (es.getD k (0,0)).1 (es.getD k (0,0)).2 m)[0]?=some b0:=⟨_,List.getElem?_eq_getElem h0⟩
     refine⟨_,rfl,_,rfl,t,_,_,_,rfl,rfl,SqT.of ht,atI_nat (j:=0) (nl_get hb0),rfl,fun u H3 s3 hu=>⟨rfl,fun l H4 s4 hl=>?_⟩⟩
     exact t2 hle H4 l _ (Same.trans s1 (Same.trans s2 (Same.trans s3 s4))) hl rfl
end
end My
namespace PySem.W
open PySem PySem.Spec PySem.Calls PyProof.Rows PyProof.V
section
variable{prog:Program}{w:World}{A:Around}{E:Value->Shared->Prop}{s:Shared}
theorem tcollect{R:List Value->Shared->Prop}{it:Addr}{items:Array Value}(ht:IsTup s.heap it items)(hz:items.size<=sizeLine)
  (h:∀h':Heap,(∀b o,s.heap.get? b=some o->h'.get? b=some o)->s.heap.objs.size<h'.objs.size->R items.toList {s with heap:=h'}):
  wpAny (model prog w) A (collect (.ref it)) R E s:=by
 obtain⟨o,ho,hc,n,hd⟩:=ht
 unfold collect
 refine wpAny_bind (wpAny_runValue (codeAny_builtin entry_proto_collect' ?_))
 rw[Around.under_plainId PySem.F.plain_proto_collect _]
 show wpAny _ A.in1 (newList []>>=fun l=>again (.builtin "list.__iadd__" ⟨[l,.ref it],[]⟩)) _ _ s
 refine wpAny_bind (wpAny_newObj_type ?_)
 refine wpAny_pure ⟨plainId_quiet PySem.F.plain_list_iadd _,codeAny_builtin entry_list_iadd' ?_⟩
 rw[Around.under_plainId PySem.F.plain_list_iadd _]
 have hS₁:(s.heap.push {cls:= .type "list",data:= .seq ([]:List Value).toArray}).get? s.heap.objs.size=some {cls:= .type "list",data:= .seq #[]}:=Heap.get?_push_size _ rfl
 show wpAny _ A.in1 (Builtin.List.listExtendWith (.ref s.heap.objs.size) (.ref it) (.ref s.heap.objs.size)) _ _ _
 have key:=wpAny_extend_seq (prog:=prog) (w:=w) (A:=A) (s:={s with heap:=s.heap.push {cls:= .type "list",data:= .seq ([]:List Value).toArray}})
  (R:=fun(q:Result)(s':Shared)=>q= .ok (.ret (.ref s.heap.objs.size))/\s'={s with heap:=(s.heap.push {cls:= .type "list",data:= .seq ([]:List Value).toArray}).update s.heap.objs.size (Obj.mapSeq fun x=>x++items)})
  s.heap.objs.size it (.ref s.heap.objs.size) 0 (T:="tuple") (o:=o) (items:=items) (n:=n) (.inr rfl) hS₁ (Heap.get?_push_of_some _ ho) hc hd ⟨rfl,rfl⟩ hz
 obtain⟨cc,hS2⟩:∃cc,((s.heap.push {cls:= .type "list",data:= .seq ([]:List Value).toArray}).update s.heap.objs.size (Obj.mapSeq fun x=>x++items)).get? s.heap.objs.size=some {cls:= .type "list",dict:=none,data:= .seq items cc,slots:=#[]}:=by
  have e:=get?_update_seq (c:="list") (xs:=#[]) (n:=0) hS₁ (fun x=>x++items)
  have e2:(#[]:Array Value)++items=items:=by simp
  rw[e2]at e
  exact⟨_,e⟩
 have hkeep:∀b o,s.heap.get? b=some o->((s.heap.push {cls:= .type "list",data:= .seq ([]:List Value).toArray}).update s.heap.objs.size (Obj.mapSeq fun x=>x++items)).get? b=some o:=fun b o e=>by
  rw[Heap.get?_update_ne _ _ _ _ (Nat.ne_of_lt (Heap.lt_size e))]
  exact Heap.get?_push_of_some _ e
 have hsz:s.heap.objs.size<((s.heap.push {cls:= .type "list",data:= .seq ([]:List Value).toArray}).update s.heap.objs.size (Obj.mapSeq fun x=>x++items)).objs.size:=Heap.lt_size hS2
 refine wpAny_mono key (fun fin s' x=>?_) fun e s' x=>?_
 ·cases fin with
  |done f=>
   obtain⟨e,rfl⟩:=x
   cases e
   show wpAny _ A (load s.heap.objs.size>>=_) _ _ _
   refine wpAny_bind (wpAny_load hS2 ?_)
   exact wpAny_pure (h _ hkeep hsz)
  |again c₁=>
   refine⟨x.1,codeAny_mono x.2 fun q s₂ y=>?_⟩
   obtain⟨rfl,rfl⟩:=y
   show wpAny _ A (load s.heap.objs.size>>=_) _ _ _
   refine wpAny_bind (wpAny_load hS2 ?_)
   exact wpAny_pure (h _ hkeep hsz)
 ·obtain⟨e',_⟩:=x
  cases e'
end
end PySem.W
namespace L2
open PySem PySem.Spec PyProof.Rows
section
variable{prog:Program}{w:World}{A:Around}{E:Value->Shared->Prop}{s:Shared}
theorem sorted_tup{d:Addr}{vs:List Value}{ns:List Int}{Q:Value->Shared->Prop}(ht:IsTup s.heap d vs.toArray)(hI:IntsAre vs ns)(h64:vs.length<64)
  (h:∀(h':Heap)(p:Addr)(out:Array Value)(e:Nat)(ns':List Int),(∀b o,s.heap.get? b=some o->h'.get? b=some o)->s.heap.objs.size<=p->h'.get? p=some (seqObj "list" out e)->IntsAre out.toList ns'->ns'.Perm ns->ns'.Pairwise (·<=·)->Q (.ref p) {s with heap:=h'}):
  wpAny (model prog w) A (call (.builtin "sorted") [.ref d]) Q E s:=by
 refine Calls.call_function_entry kind_sorted plain_sorted entry_sorted (args_sorted1 _) ?_
 unfold Builtin.«sorted»
 refine wpAny_bind (m:=checkCount "sorted" 1 1 _) (wpAny_pure ?_)
 refine wpAny_bind (PySem.W.tcollect (A:=A.in1) ht (by rw[List.size_toArray];exact leMil (by omega)) fun h1 hk1 hsz=>?_)
 refine wpAny_bind (wpAny_newList ?_ (leMil (by simp;omega)))
 have hoL:(h1.push (seqObj "list" vs.toArray 0)).get? h1.objs.size=some (seqObj "list" vs.toArray 0):=Heap.get?_push_size _ rfl
 refine wpAny_bind (wpAny_holding (wpAny_call_entry slot_list_sort ⟨_,hoL,rfl⟩ entry_list_sort (list_sort_tree hoL hI (by omega) fun out ns' a1 a2 a3=>⟨_,rfl,?_⟩) (args_list_sort _)))
 obtain⟨e,he⟩:=sortedHeap_at (out:=out) hoL
 refine wpAny_pure ⟨_,rfl,h _ h1.objs.size out e ns' (fun b o eb=>?_) ?_ he a1 a2 a3⟩
 ·have hlt:b<h1.objs.size:=Heap.lt_size (hk1 b o eb)
  rw[sortedHeap_old (Nat.ne_of_lt hlt) (by rw[size_push'];exact Nat.lt_succ_of_lt hlt)]
  exact Heap.get?_push_of_some _ (hk1 b o eb)
 ·exact Nat.le_of_lt hsz
end
section
variable{X:Cx}
def rSortedT(K:PySem.W.Frag):List V->Hp->VK->Prop:=fun xs H Q=>∃l,∃ns:List Int,xs=[.ref l]/\SqT K H l (ns.map V.int)/\ns.length<64/\∀p(ns':List Int) H',Same H H'->H' p=some (.lst (ns'.map V.int))->ns'.Perm ns->ns'.Pairwise (·<=·)->Q (.ref p) H'
theorem call_sortedT:CallR X (.builtin "sorted") (rSortedT X.K):=by
 intro pins s σ H xs us Q I r h
 obtain⟨l,ns,rfl,hl,h64,q⟩:=h
 obtain⟨u,rfl,rx⟩:=vals1 r
 cases(show u=Value.ref l from rx)
 obtain⟨vs,rv,pl,hz⟩:=I.tuple hl
 have hvl:=rv.length
 rw[List.length_map]at hvl
 refine sorted_tup pl (ints_of rv) (by omega) fun h' p out e ns' kp hp he a1 a2 a3=>?_
 have hln:=a2.length_eq
 refine⟨.ref p,_,I.laid (t':=s.toks) (a:=p) (o:= .lst (ns'.map V.int)) kp hp ?_,rfl,q _ ns' _ (same_add (I.hok.fresh hp)) upd_same a2 a3⟩
 exact⟨by rw[List.length_map];exact leMil (by omega),out.toList,e,lst_vals a1,he⟩
end
end L2
namespace L2
open PySem PySem.Spec PyProof.Rows PySem.SeqAt
section
variable{X:Cx}
def rNotInTT(K:PySem.W.Frag):R2:=fun x y H Q=>∃(p l:Addr)(ns:List Int)(tr:List (Addr×List Int)),x= .ref p/\y= .ref l/\SqT K H p (ns.map V.int)/\SqT K H l (tr.map fun t=>V.ref t.1)/\(∀t∈tr,SqT K H t.1 (t.2.map V.int))/\Q (.bl (!tr.any fun t=>decide (t.2=ns))) H
theorem op_notInTT{k:Nat}(hr:Room k X.A):OpR X (compareOp .NotIn) (rNotInTT X.K):=by
 intro pins s σ H x y v u Q I rx ry h
 obtain⟨p,l,ns,tr,rfl,rfl,hp,hl,ht,q⟩:=h
 cases(show v=Value.ref p from rx)
 cases(show u=Value.ref l from ry)
 obtain⟨its,r,pl,hz⟩:=I.tuple hl
 have e:=refs_ofT r
 subst e
 have hun:=hr.un
 have hinj:∀t∈tr,∀t'∈tr,t.1=t'.1->t.2=t'.2:=fun t h1 t' h2 z=>by
  have a:=ht t h1
  have b:=ht t' h2
  rw[<-z]at b
  exact(List.map_inj_right (fun x y z=>V.int.inj z)).mp (I.tuple_inj a b)
 refine SeqAt.notIn_tupleAt (fun w=>@decide (∃t∈tr,w=Value.ref t.1/\t.2=ns) (Classical.propDecidable _)) pl (fun w hw=>?_) ⟨.bl _,H,I,rfl,?_⟩
 ·obtain⟨t,h1,rfl⟩:=List.mem_map.mp (show w∈tr.map fun t=>Value.ref t.1 by simpa using hw)
  have e:=eq_tupI I (A:=X.A.in1) (by show X.A.units+1+1<cLine;omega) (ht t h1) hp
  have e2:@decide (∃t'∈tr,Value.ref t.1=Value.ref t'.1/\t'.2=ns) (Classical.propDecidable _)=decide (t.2=ns):=by
   by_cases z:t.2=ns
   ·rw[decide_eq_true z]
    exact @decide_eq_true _ (Classical.propDecidable _) ⟨t,h1,rfl,z⟩
   ·rw[decide_eq_false z]
    refine @decide_eq_false _ (Classical.propDecidable _) fun⟨t',h2,e3,e4⟩=>z ?_
    have:t.1=t'.1:=Value.ref.inj e3
    rw[hinj t h1 t' h2 this]
    exact e4
  show EqAt _ s _ _ (@decide (∃t'∈tr,Value.ref t.1=Value.ref t'.1/\t'.2=ns) (Classical.propDecidable _))
  rw[e2]
  exact e
 ·have e:((tr.map fun t=>Value.ref t.1).toArray.any fun w=>@decide (∃t∈tr,w=Value.ref t.1/\t.2=ns) (Classical.propDecidable _))=tr.any fun t=>decide (t.2=ns):=by
   rw[Bool.eq_iff_iff,List.any_eq_true]
   rw[show(tr.map fun t=>Value.ref t.1).toArray.any (fun w=>@decide (∃t∈tr,w=Value.ref t.1/\t.2=ns) (Classical.propDecidable _))=(tr.map fun t=>Value.ref t.1).any (fun w=>@decide (∃t∈tr,w=Value.ref t.1/\t.2=ns) (Classical.propDecidable _)) by simp,List.any_eq_true]
   constructor
   ·rintro⟨w,_,z⟩
    obtain⟨t,h1,_,h2⟩:=@of_decide_eq_true _ (Classical.propDecidable _) z
    exact⟨t,h1,decide_eq_true h2⟩
   ·rintro⟨t,h1,h2⟩
    exact⟨Value.ref t.1,List.mem_map_of_mem h1,@decide_eq_true _ (Classical.propDecidable _) ⟨t,h1,rfl,of_decide_eq_true h2⟩⟩
  rw[e]
  exact q
end
theorem pe_lcTK{X:Cx}{K:PySem.W.Frag}{scope:Scope}{cl:List (Str×Addr)}{N:List Str}{bs:List (Option Nat)}{tg iter elt:Expr}{ifs:List Expr}{pos:Pos}{tl:TE}{g:TG}{tt:TT}{te:TE}(hK:X.K=K)(B:Blk X scope cl N bs)(hc:X.calm=true)
  (hl:PE X iter tl)(hm:MonoE tl)(hg:∀C fp s H,PG (cxBlk X scope cl C N fp s H) tg g) (ht:∀C fp s H,PTs (cxBlk X scope cl C N fp s H) ifs tt) (he:∀C fp s H,PE (cxBlk X scope cl C N fp s H) elt te)
  (hs:∀x,foldedSetIterable iter X.env x=pure x:=by intro _;rfl):PE X (.ListComp elt [⟨tg,iter,ifs,0⟩] scope pos) (tLCT K bs tl g tt te):=by
 subst hK
 exact pe_lcT B hc hl hm hg ht he hs
end L2
namespace My
open PySem L2
theorem bSet:bootBuiltins "set"=some (.type "set"):=by decide+kernel
theorem bSorted:bootBuiltins "sorted"=some (.builtin "sorted"):=by decide+kernel
theorem nl_int(l:List Nat):nl l=(l.map fun x:Nat=>(x:Int)).map V.int:=by
 unfold nl
 rw[List.map_map]
 rfl
theorem nl_at{l:List Nat}{i:Nat}{v:V}(h:(nl l)[i]?=some v):∃x:Nat,l[i]?=some x/\v= .int (x:Int):=by
 unfold nl at h
 rw[List.getElem?_map]at h
 cases q:l[i]? with
 |none=>rw[q]at h;cases h
 |some x=>rw[q]at h;exact⟨x,rfl,(Option.some.inj h).symm⟩
theorem dl_len(es:List (Nat×Nat))(n:Nat):(dl es n).length=n:=by
 unfold dl
 rw[List.length_map,List.length_range]
theorem dl_succ(es:List (Nat×Nat))(i:Nat):dl es (i+1)=dl es i++[(dg es es.length i:Int)]:=by
 unfold dl
 rw[List.range_succ,List.map_append]
 rfl
def retLC:Stmt->Scope
 | .Return (some (.Call _ [.ListComp _ _ s _] _ _)) _=>s
 |_=>{kind:= .function,names:=[],isGenerator:=false,isCoroutine:=false}
def retLC2:Stmt->Scope
 | .Return (some (.Call _ [.ListComp (.Call _ [.ListComp _ _ s _] _ _) _ _ _] _ _)) _=>s
 |_=>{kind:= .function,names:=[],isGenerator:=false,isCoroutine:=false}
section
variable{P:Program}{w:World}{K:PySem.W.Frag}{mg:Str->Option Value}{base:Heap}
abbrev sLm:Stmt:=top 56
abbrev lcS1:Scope:=retLC (stOf 56 0)
abbrev lcS2:Scope:=retLC2 (stOf 56 0)
abbrev nL1:List Str:=["_law_point","_law_net_here"]
def spLm:Sp:=fun vs H Q _=>∃(p:Addr)(n:Nat)(q:Addr)(ts:List V)(es:List (Nat×Nat)),vs=[.ref p]/\NetZ H p n q ts es/\0<n/\∀(H':Hp)(M:Int),Same H H'->IsMax (dl es n) M->Q (.int M) H'
theorem ndL1:nL1.Nodup:=by decide+kernel
theorem ndL2:(["_law_tie_here","_law_point"]:List Str).Nodup:=by decide+kernel
theorem scLm:FnScope ["_law_net_here"] ["_law_net_here"] (defScope sLm):=⟨rfl,rfl,rfl,by decide+kernel,rfl,by decide+kernel,by decide+kernel⟩
theorem blkL1{f:Addr}{cdv:Value}{A:Around}{outer:List Env}{s:Shared}{H:Hp}{E:XK}:
  BlkC (cxOf CX0 P w K mg base ["_law_net_here"] "_law_most" (defScope sLm) f cdv A outer s H E).nox lcS1 [("_law_net_here",s.heap.objs.size+1)] nL1 [none,some 0]:=by
 refine⟨rfl,rfl,by decide+kernel,by decide+kernel,fun p hp=>?_,fun y hy e=>?_,⟨rfl,rfl,rfl⟩,trivial⟩
 ·rw[List.mem_singleton.mp hp]
  rfl
 ·have hy':y∈[((PySem.Str.ofString ".0":Str),NameKind.local),(PySem.Str.ofString "_law_point",.cell),(PySem.Str.ofString "len",.globalImplicit),(PySem.Str.ofString "_law_net_here",.free)]:=hy
  simp only[List.mem_cons,List.not_mem_nil,or_false]at hy'
  rcases hy' with rfl|rfl|rfl|rfl<;>first|rfl|cases e
theorem blkL2{f:Addr}{cdv:Value}{A:Around}{outer:List Env}{s s':Shared}{H H':Hp}{E:XK}{C:Addr}{fp:List Addr}:
  Blk (cxBlkC (cxOf CX0 P w K mg base ["_law_net_here"] "_law_most" (defScope sLm) f cdv A outer s H E).nox lcS1 [("_law_net_here",s.heap.objs.size+1)] C nL1 fp s' H') lcS2 [("_law_point",C+1)] ["_law_tie_here","_law_point"] [none,some 0]:=by
 refine⟨rfl,rfl,by decide+kernel,by decide+kernel,fun p hp=>?_,fun y hy e=>?_,⟨rfl,rfl,rfl⟩,trivial⟩
 ·rw[List.mem_singleton.mp hp]
  rfl
 ·have hy':y∈[((PySem.Str.ofString ".0":Str),NameKind.local),(PySem.Str.ofString "_law_tie_here",.local),(PySem.Str.ofString "_law_point",.free)]:=hy
  simp only[List.mem_cons,List.not_mem_nil,or_false]at hy'
  rcases hy' with rfl|rfl|rfl<;>first|rfl|cases e
theorem ok_lm{f:Addr}{fd:FuncData}(F:Fun K "_law_most" "_law_most" sLm f fd)(T:Bi mg):FnOk P w K mg base CX0 1 f fd ["_law_net_here"] spLm:=by
 refine F.ok scLm (fun vs H Q E h=>?_) (fun cdv A outer s H vs Q E hr h=>?_)
 ·obtain⟨p,n,q,ts,es,rfl,_⟩:=h
  rfl
 ·obtain⟨p,n,qa,ts,es,rfl,N,n0,q⟩:=h
  have h60:=N.n60
  have h200:=N.l200
  have hlen:=N.len
  refine⟨_,pss_one (ps_ret (pe_callB (call_maxs rfl) rfl T.max bMax (pa_c (pe_lcRC blkL1 rfl rfl T.range (pa_c (pe_ix ix_tup (pv 0) pe_int (fun _ _=>rfl)) pa_nil) (monoA_cons (mono_ixT (mono_var 0) (mono_c _)) monoA_nil) rfl
   (fun C fp s H=>pg_name (i:=0) ndL1 rfl (Or.inr rfl)) (fun C fp s H=>pts_nil)
   (fun C fp s H=>pe_callB (call_lenK (K:=K) rfl) rfl T.len bLen (pa_c (pe_lcTK (K:=K) rfl blkL2 rfl (pe_ix (ix_tupX (K:=K) rfl) (pv 1) pe_int (fun _ _=>rfl)) (mono_ixT (mono_var 1) (mono_c _)) (fun C fp s H=>pg_name (i:=0) ndL2 rfl (Or.inl rfl))
    (fun C fp s H=>pts_one (pt_cmpR (op_inK (K:=K) rfl) (pv 1) (pv 0) rfl)) (fun C fp s H=>pv 0)) pa_nil))) pa_nil))),?_⟩
  refine⟨_,rfl,p,_,_,_,rfl,rfl,SqT.of N.e1,rfl,n,rfl,by omega,fun i ys σ G=>Same H G/\ys=(dl es i).map V.int/\∃v0,σ=[v0,some (.ref p)],⟨Same.refl _,rfl,none,rfl⟩,fun i ys σ G hi⟨_,e,_⟩=>(by rw[e,List.length_map,dl_len];exact Nat.le_refl _),fun i ys σ G hi⟨sG,e1,v0,e⟩=>?_,fun ys σ G⟨sG,e1,_⟩ l G2 s2 hl=>?_⟩
  ·subst e1 e
   refine⟨_,rfl,p,_,_,_,rfl,rfl,SqT.of (sG _ _ N.e1),rfl,qa,_,rfl,SqT.of (sG _ _ N.e2),by omega,fun k zs σ G'=>Same G G'/\zs.length=dg es k i/\∃v0,σ=[v0,some (.int (0+(i:Int)))],⟨Same.refl _,rfl,none,rfl⟩,fun k zs σ G' hk⟨sG',e2,_⟩=>⟨SqT.of (sG' _ _ (sG _ _ N.e2)),by rw[e2];exact dg_le es k i⟩,fun k x zs σ G' hx⟨sG',e2,v0,e⟩=>?_,fun zs σ G'⟨sG',e2,_⟩ l G2 s2 hl=>?_⟩
   ·subst e
    obtain⟨a,rfl,ha⟩:=N.tie k x hx
    have ha2:=sG' _ _ (sG _ _ ha)
    refine⟨_,rfl,_,rfl,a,_,rfl,.inr (SqT.of ha2),rfl,rfl,_,rfl,?_⟩
    rw[Int.zero_add]
    refine ite2 (fun hh=>⟨_,rfl,sG',?_,_,rfl⟩) (fun hh=>⟨sG',?_,_,rfl⟩)
    ·have hA:=(in_at i (es.getD k (0,0))).mp hh
     rw[dg_succ,if_pos (atB_iff.mpr hA),List.length_append,e2]
     rfl
    ·have hA:¬At (es.getD k (0,0)) i:=fun z=>hh ((in_at i (es.getD k (0,0))).mpr z)
     rw[dg_succ,if_neg (fun z=>hA (atB_iff.mp z)),e2]
     rfl
   ·refine⟨l,_,rfl,.inl (SqL.of hl),?_⟩
    refine⟨Same.trans sG (Same.trans sG' s2),?_,_,rfl⟩
    rw[dl_succ,List.map_append,e2,hlen]
    rfl
  ·subst e1
   exact⟨l,dl es n,rfl,.inl (SqL.of hl),by rw[dl_len];exact n0,fun M m1 m2=>q G2 M (Same.trans sG s2) (.inr ⟨m1,m2⟩)⟩
abbrev sWh:Stmt:=top 52
def spWh(K:PySem.W.Frag):Sp:=fun vs H Q _=>∃v:V,vs=[v]/\((∃i,v= .int i/\Q (.bl true) H)\/(∃t,TyOf K H v (.type t)/\PySem.W.kitOne K (.type t) (.type "int")=some false/\Q (.bl false) H))
theorem scWh:FnScope ["_law_found"] ["_law_found"] (defScope sWh):=⟨rfl,rfl,rfl,by decide+kernel,rfl,by decide+kernel,by decide+kernel⟩
theorem ok_wh{f:Addr}{fd:FuncData}(F:Fun K "_law_whole" "_law_whole" sWh f fd)(T:Bi mg):FnOk P w K mg base CX0 1 f fd ["_law_found"] (spWh K):=by
 refine F.ok scWh (fun vs H Q E h=>?_) (fun cdv A outer s H vs Q E hr h=>?_)
 ·obtain⟨v,rfl,_⟩:=h
  rfl
 ·obtain⟨v,rfl,h⟩:=h
  refine⟨_,pss_one (ps_ret (pe_and (pe_callB call_isinst rfl T.isi bIsi (pa_c (pv 0) (pa_c (pe_bltn (v:= .ty "int") rfl T.int bInt rfl) pa_nil)))
   (pe_one (pe_not (pe_callB call_isinst rfl T.isi bIsi (pa_c (pv 0) (pa_c (pe_bltn (v:= .ty "bool") rfl T.bool bBool rfl) pa_nil))))))),?_⟩
  rcases h with⟨i,rfl,q⟩|⟨t,ty,kt,q⟩
  ·exact⟨_,rfl,_,_,_,_,rfl,.int i,kit K "int" "int" true (by decide+kernel),_,rfl,iteT ⟨_,rfl,_,_,_,_,rfl,.int i,kit K "int" "bool" false (by decide+kernel),_,rfl,q⟩⟩
  ·exact⟨_,rfl,_,_,_,_,rfl,ty,kt,_,rfl,iteF q⟩
abbrev sNu:Stmt:=top 53
def nuC:Stmt->Scope
 | .Return (some (.Compare (.Call _ [.ListComp _ _ s _] _ _) _ _ _)) _=>s
 |_=>{kind:= .function,names:=[],isGenerator:=false,isCoroutine:=false}
abbrev nuS:Scope:=nuC (stOf 53 1)
abbrev nNu:List Str:=["_law_found","_law_most_here"]
theorem ndNu:(["_law_one","_law_most_here"]:List Str).Nodup:=by decide+kernel
theorem scNu:FnScope nNu nNu (defScope sNu):=⟨rfl,rfl,rfl,by decide+kernel,rfl,by decide+kernel,by decide+kernel⟩
theorem blkNu{f:Addr}{cdv:Value}{A:Around}{outer:List Env}{s:Shared}{H:Hp}{E:XK}:
  Blk (cxOf CX0 P w K mg base nNu "_law_numbers" (defScope sNu) f cdv A outer s H E).nox nuS [("_law_most_here",s.heap.objs.size+1)] ["_law_one","_law_most_here"] [none,some 1]:=by
 refine⟨rfl,rfl,by decide+kernel,by decide+kernel,fun p hp=>?_,fun y hy e=>?_,⟨rfl,rfl,rfl⟩,trivial⟩
 ·rw[List.mem_singleton.mp hp]
  rfl
 ·have hy':y∈[((PySem.Str.ofString ".0":Str),NameKind.local),(PySem.Str.ofString "_law_one",.local),(PySem.Str.ofString "_law_whole",.globalImplicit),(PySem.Str.ofString "_law_most_here",.free)]:=hy
  simp only[List.mem_cons,List.not_mem_nil,or_false]at hy'
  rcases hy' with rfl|rfl|rfl|rfl<;>first|rfl|cases e
def spNu:Sp:=fun vs H Q _=>∃(r:Addr)(l:List Nat)(b:Nat),vs=[.ref r,.int (b:Int)]/\H r=some (.tup (nl l))/\l.length<=1000/\(∀x∈l,x<b)/\∀H',Same H H'->Q (.bl true) H'
theorem ok_nu{f:Addr}{fd:FuncData}(F:Fun K "_law_numbers" "_law_numbers" sNu f fd)(T:Bi mg)(FW:FnE P w K mg base "_law_whole" ["_law_found"] 1 (spWh K)):FnOk P w K mg base CX0 2 f fd nNu spNu:=by
 refine F.ok scNu (fun vs H Q E h=>?_) (fun cdv A outer s H vs Q E hr h=>?_)
 ·obtain⟨r,l,b,rfl,_⟩:=h
  rfl
 ·obtain⟨r,l,b,rfl,hr',hl,hlt,q⟩:=h
  refine⟨_,pss_cons (ps_if (pt_not (pt_val (pe_callB call_isinst rfl T.isi bIsi (pa_c (pv 0) (pa_c (pe_bltn (v:= .ty "tuple") rfl T.tuple bTuple rfl) pa_nil))))) pss_never pss_nil)
   (pss_one (ps_ret (pe_cmpR op_eq (pe_callB call_len_seq rfl T.len bLen (pa_c (pe_lcT blkNu rfl (pv 0) (mono_var 0) (fun C fp s H=>pg_name (i:=0) ndNu rfl (Or.inl rfl)) (fun C fp s H=>pts_one (PW.pt (pw_and (pt_val (pe_fc FW hr (pa_c (pv 0) pa_nil))) (pw_and1 (pt_chain op_le op_lt pe_int (pv 0) (pv 1)))))) (fun C fp s H=>pv 0)) pa_nil)) (pe_callB call_len_seq rfl T.len bLen (pa_c (pv 0) pa_nil)) (nomark _)))),?_⟩
  refine⟨_,rfl,_,_,_,_,rfl,.tup hr',kit K "tuple" "tuple" true (by decide+kernel),_,rfl,iteF ?_⟩
  refine⟨_,rfl,r,_,rfl,SqT.of hr',by rw[nl_len];omega,fun i ys σ G=>Same H G/\ys.length=i/\∃v0,σ=[v0,some (.int (b:Int))],⟨Same.refl H,rfl,none,rfl⟩,fun i ys σ G hi⟨sG,e,_⟩=>⟨SqT.of (sG _ _ hr'),Nat.le_of_eq e⟩,fun i x ys σ G hx⟨sG,e,v0,eσ⟩=>?_,fun ys σ G⟨sG,e,_⟩ lc G2 s2 hlc=>?_⟩
  ·subst eσ
   obtain⟨u,hu,rfl⟩:=nl_at hx
   have hub:=hlt u (List.mem_of_getElem? hu)
   refine⟨_,rfl,_,rfl,.inl ⟨_,rfl,_,rfl,iteT ?_⟩⟩
   refine⟨_,rfl,_,_,rfl,rfl,_,rfl,?_⟩
   refine ite2 (fun _=>?_) (fun z=>absurd (decide_eq_true (by omega)) z)
   refine⟨_,rfl,_,_,rfl,rfl,_,rfl,?_⟩
   refine ite2 (fun _=>?_) (fun z=>absurd (decide_eq_true (by omega)) z)
   exact⟨_,rfl,sG,by rw[List.length_append,e];rfl,_,rfl⟩
  ·refine⟨lc,_,rfl,.inl (SqL.of hlc),_,rfl,r,_,rfl,.inr (SqT.of (s2 _ _ (sG _ _ hr'))),rfl,?_⟩
   rw[decide_eq_true (by rw[e])]
   exact q G2 (Same.trans sG s2)
end
theorem fold_le(ks:List (List Int)):∀acc:List (List Int),(ks.foldl SetT.stepK acc).length<=acc.length+ks.length:=by
 induction ks with
 |nil=>intro acc;exact Nat.le_refl _
 |cons k ks ih=>
  intro acc
  have h:=ih (SetT.stepK acc k)
  have h2:(SetT.stepK acc k).length<=acc.length+1:=by
   unfold SetT.stepK
   split
   ·omega
   ·rw[List.length_append,List.length_singleton];exact Nat.le_refl _
  rw[List.foldl_cons,List.length_cons]
  omega
theorem fold_nd(ks:List (List Int)):∀acc:List (List Int),(ks.foldl SetT.stepK acc).length<acc.length+ks.length↔¬(ks.Nodup/\∀k∈ks,¬k∈acc):=by
 induction ks with
 |nil=>intro acc;exact⟨fun h=>absurd h (Nat.lt_irrefl _),fun h=>absurd ⟨List.nodup_nil,fun k hk=>by cases hk⟩ h⟩
 |cons k ks ih=>
  intro acc
  rw[List.foldl_cons,List.length_cons]
  by_cases hk:k∈acc
  ·have e:SetT.stepK acc k=acc:=by unfold SetT.stepK;rw[if_pos hk]
   rw[e]
   have:=fold_le ks acc
   exact⟨fun _ h=>h.2 k (.head _) hk,fun _=>by omega⟩
  ·have e:SetT.stepK acc k=acc++[k]:=by unfold SetT.stepK;rw[if_neg hk]
   rw[e]
   have h:=ih (acc++[k])
   rw[List.length_append,List.length_singleton]at h
   rw[show acc.length+(ks.length+1)=acc.length+1+ks.length by omega,h]
   refine not_congr ⟨fun⟨h1,h2⟩=>⟨List.nodup_cons.mpr ⟨fun z=>h2 k z (List.mem_append_right _ (.head _)),h1⟩,fun x hx=>?_⟩,fun⟨h1,h2⟩=>⟨(List.nodup_cons.mp h1).2,fun x hx z=>?_⟩⟩
   ·rcases List.mem_cons.mp hx with rfl|hx
    ·exact hk
    ·exact fun z=>h2 x hx (List.mem_append_left _ z)
   ·rcases List.mem_append.mp z with z|z
    ·exact h2 x (.tail _ hx) z
    ·rw[List.mem_singleton.mp z]at hx
     exact(List.nodup_cons.mp h1).1 hx
def nky(e:Nat×Nat):List Int:=[((nrm e).1:Int),((nrm e).2:Int)]
theorem nky_inj{a b:Nat×Nat}(h:nky a=nky b):nrm a=nrm b:=by
 have h1:=List.cons.inj h
 have h2:=(List.cons.inj h1.2).1
 have e1:=h1.1
 refine Prod.ext ?_ ?_<;>omega
theorem twin_iff{es:List (Nat×Nat)}:((es.map nky).foldl SetT.stepK []).length<es.length↔Twin es:=by
 have h:=fold_nd (es.map nky) []
 rw[List.length_nil,Nat.zero_add,List.length_map]at h
 rw[h]
 constructor
 ·intro hn
  refine Classical.byContradiction fun ht=>hn ⟨?_,fun k _ z=>by cases z⟩
  unfold List.Nodup
  rw[List.pairwise_map,List.pairwise_iff_getElem]
  intro i j hi hj hij e
  refine ht ⟨i,j,hij,hj,?_⟩
  rw[List.getD_eq_getElem?_getD,List.getD_eq_getElem?_getD,List.getElem?_eq_getElem hi,List.getElem?_eq_getElem hj]
  exact nky_inj e
 ·rintro⟨i,j,hij,hj,e⟩ ⟨hn,_⟩
  unfold List.Nodup at hn
  rw[List.pairwise_map,List.pairwise_iff_getElem]at hn
  refine hn i j (by omega) hj hij ?_
  rw[List.getD_eq_getElem?_getD,List.getD_eq_getElem?_getD,List.getElem?_eq_getElem (show i<es.length by omega),List.getElem?_eq_getElem hj]at e
  unfold nky
  have e':nrm es[i]=nrm es[j]:=e
  rw[e']
theorem NetZ.tr{H:Hp}{p q:Addr}{n:Nat}{ts:List V}{es:List (Nat×Nat)}(N:NetZ H p n q ts es):∃tr:List (Addr×List Int),ts=(tr.map fun t=>V.ref t.1)/\tr.map (·.2)=(es.map fun e=>[(e.1:Int),(e.2:Int)])/\∀t∈tr,H t.1=some (.tup (t.2.map V.int)):=by
 have key:∀(ts:List V)(es:List (Nat×Nat)),ts.length=es.length->(∀(i:Nat) t,ts[i]?=some t->∃a,t= .ref a/\H a=some (.tup [.int ((es.getD i (0,0)).1:Int),.int ((es.getD i (0,0)).2:Int)]))->∃tr:List (Addr×List Int),ts=(tr.map fun t=>V.ref t.1)/\tr.map (·.2)=(es.map fun e=>[(e.1:Int),(e.2:Int)])/\∀t∈tr,H t.1=some (.tup (t.2.map V.int)):=by
  intro ts
  induction ts with
  |nil=>intro es hl _;cases es with|nil=>exact⟨[],rfl,rfl,fun t ht=>by cases ht⟩|cons _ _=>cases hl
  |cons t ts ih=>
   intro es hl h
   cases es with
   |nil=>cases hl
   |cons e es=>
    obtain⟨a,rfl,ha⟩:=h 0 t rfl
    obtain⟨tr,h1,h2,h3⟩:=ih es (by simpa using hl) fun i t' ht'=>h (i+1) t' (by simpa using ht')
    refine⟨(a,[(e.1:Int),(e.2:Int)])::tr,by rw[h1];rfl,by rw[List.map_cons,List.map_cons,h2],fun x hx=>?_⟩
    rcases List.mem_cons.mp hx with rfl|hx
    ·exact ha
    ·exact h3 x hx
 exact key ts es N.len fun i t ht=>N.tie i t ht
theorem tr_any{tr:List (Addr×List Int)}{es:List (Nat×Nat)}(h:tr.map (·.2)=(es.map fun e=>[(e.1:Int),(e.2:Int)])) (a b:Nat):(tr.any fun t=>decide (t.2=[(a:Int),(b:Int)]))=true↔(a,b)∈es:=by
 rw[List.any_eq_true]
 constructor
 ·rintro⟨t,ht,e⟩
  have h1:t.2∈tr.map (·.2):=List.mem_map_of_mem ht
  rw[h]at h1
  obtain⟨e',he',z⟩:=List.mem_map.mp h1
  rw[of_decide_eq_true e]at z
  have z1:=List.cons.inj z
  have z2:=(List.cons.inj z1.2).1
  have z3:=z1.1
  have:e'=(a,b):=Prod.ext (by show e'.1=a;omega) (by show e'.2=b;omega)
  rw[<-this]
  exact he'
 ·intro hm
  have h1:[(a:Int),(b:Int)]∈tr.map (·.2):=by rw[h];exact List.mem_map.mpr ⟨(a,b),hm,rfl⟩
  obtain⟨t,ht,e⟩:=List.mem_map.mp h1
  exact⟨t,ht,decide_eq_true e⟩
theorem adj_mem{es:List (Nat×Nat)}{x y:Nat}(h:y∈Sd.adjF es es.length x):(x,y)∈es\/(y,x)∈es:=by
 rw[Sd.mem_adjF]at h
 obtain⟨k,h1,h2⟩:=h
 have hm:=getD_mem (es:=es) h1
 rcases h2 with⟨z1,z2⟩|⟨z1,z2⟩
 ·exact .inl (by rw[z1,z2];exact hm)
 ·exact .inr (by rw[z1,z2];exact hm)
section
variable{P:Program}{w:World}{K:PySem.W.Frag}{mg:Str->Option Value}{base:Heap}
abbrev sTw:Stmt:=top 55
abbrev twS:Scope:=compScope (retE (stOf 55 0))
abbrev nTw:List Str:=["_law_net_here","_law_pairs"]
theorem ndTw:(["_law_tie_here"]:List Str).Nodup:=by decide+kernel
theorem scTw:FnScope nTw ["_law_net_here"] (defScope sTw):=⟨rfl,rfl,rfl,by decide+kernel,rfl,by decide+kernel,by decide+kernel⟩
theorem blkTw{f:Addr}{cdv:Value}{A:Around}{outer:List Env}{s:Shared}{H:Hp}{E:XK}:
  Blk (cxOf CX0 P w K mg base nTw "_law_twins" (defScope sTw) f cdv A outer s H E).nox twS [] ["_law_tie_here"] [none]:=by
 refine⟨rfl,rfl,by decide+kernel,by decide+kernel,fun p hp=>(by cases hp),fun y hy e=>?_,trivial⟩
 have hy':y∈[((PySem.Str.ofString ".0":Str),NameKind.local),(PySem.Str.ofString "_law_tie_here",.local),(PySem.Str.ofString "min",.globalImplicit),(PySem.Str.ofString "max",.globalImplicit)]:=hy
 simp only[List.mem_cons,List.not_mem_nil,or_false]at hy'
 rcases hy' with rfl|rfl|rfl|rfl<;>cases e
def spTw:Sp:=fun vs H Q _=>∃(p:Addr)(n:Nat)(q:Addr)(ts:List V)(es:List (Nat×Nat)),vs=[.ref p]/\NetZ H p n q ts es/\∀H' b,Same H H'->(b=true↔Twin es)->Q (.bl b) H'
theorem ok_tw{f:Addr}{fd:FuncData}(F:Fun K "_law_twins" "_law_twins" sTw f fd)(T:Bi mg)(hse:mg "set"=none):FnOk P w K mg base CX0 1 f fd ["_law_net_here"] spTw:=by
 refine F.ok scTw (fun vs H Q E h=>?_) (fun cdv A outer s H vs Q E hr h=>?_)
 ·obtain⟨p,n,q,ts,es,rfl,_⟩:=h
  rfl
 ·obtain⟨p,n,qa,ts,es,rfl,N,q⟩:=h
  have h200:=N.l200
  have hlen:=N.len
  refine⟨_,pss_cons (ps_lcT blkTw rfl (pe_ix ix_tup (pv 0) pe_int (fun _ _=>rfl)) (mono_ixT (mono_var 0) (mono_c _)) (fun C fp s H=>pg_name (i:=0) ndTw rfl (Or.inl rfl)) (fun C fp s H=>pts_nil)
    (fun C fp s H=>pe_tupS (pa_c (pe_callB (call_minsK (K:=K) rfl rfl) rfl T.min bMin (pa_c (pv 0) pa_nil)) (pa_c (pe_callB (call_maxsK (K:=K) rfl rfl) rfl T.max bMax (pa_c (pv 0) pa_nil)) pa_nil))) (pg_name (i:=1) scTw.nd rfl (Or.inl rfl)) rfl)
   (pss_one (ps_ret (pe_cmpR op_lt (pe_callB call_lenS rfl T.len bLen (pa_c (pe_callTy (call_setT hr) rfl hse bSet (pa_c (pv 1) pa_nil)) pa_nil)) (pe_callB call_len_seq rfl T.len bLen (pa_c (pv 1) pa_nil)) (nomark _)))),?_⟩
  refine⟨_,rfl,p,_,_,_,rfl,rfl,SqT.of N.e1,rfl,qa,_,rfl,SqT.of N.e2,by omega,fun i ys σ G=>Same H G/\ys.length=i/\(∀(j:Nat) y,ys[j]?=some y->∃b,y= .ref b/\G b=some (.tup ((nky (es.getD j (0,0))).map V.int)))/\∃v0,σ=[v0],⟨Same.refl H,rfl,(fun j y z=>by cases z),none,rfl⟩,fun i ys σ G hi⟨sG,e,_⟩=>⟨SqT.of (sG _ _ N.e2),Nat.le_of_eq e⟩,fun i x ys σ G hx⟨sG,e,hy,v0,eσ⟩=>?_,fun ys σ G⟨sG,e,hy,_⟩ l G2 s2 hl=>?_⟩
  ·subst eσ
   obtain⟨a,rfl,ha⟩:=N.tie i x hx
   obtain⟨A1,hA⟩:∃A1,(es.getD i (0,0)).1=A1:=⟨_,rfl⟩
   obtain⟨B1,hB⟩:∃B1,(es.getD i (0,0)).2=B1:=⟨_,rfl⟩
   have hn:nky (es.getD i (0,0))=[((min A1 B1:Nat):Int),((max A1 B1:Nat):Int)]:=by unfold nky nrm;rw[hA,hB]
   rw[hA,hB]at ha
   refine⟨_,rfl,a,[(A1:Int),(B1:Int)],rfl,.inr (SqT.of (sG _ _ ha)),(by show 0<2;decide),fun M1 m1 m2=>?_⟩
   refine⟨_,rfl,a,[(A1:Int),(B1:Int)],rfl,.inr (SqT.of (sG _ _ ha)),(by show 0<2;decide),fun M2 m3 m4=>?_⟩
   have e1:M1=((min A1 B1:Nat):Int):=by
    have h1:=m2 (A1:Int) (.head _)
    have h2:=m2 (B1:Int) (.tail _ (.head _))
    simp only[List.mem_cons,List.not_mem_nil,or_false]at m1
    omega
   have e2:M2=((max A1 B1:Nat):Int):=by
    have h1:=m4 (A1:Int) (.head _)
    have h2:=m4 (B1:Int) (.tail _ (.head _))
    simp only[List.mem_cons,List.not_mem_nil,or_false]at m3
    omega
   subst e1 e2
   refine⟨rfl,fun u G2 s2 hu=>⟨Same.trans sG s2,by rw[List.length_append,e];rfl,fun j y hj=>?_,_,rfl⟩⟩
   by_cases hlt:j<ys.length
   ·rw[List.getElem?_append_left hlt]at hj
    obtain⟨b,e1,e2⟩:=hy j y hj
    exact⟨b,e1,s2 _ _ e2⟩
   ·have:=(List.getElem?_eq_some_iff.mp hj).1
    rw[List.length_append]at this
    have ej:j=ys.length:=by simp only[List.length_cons,List.length_nil]at this;omega
    subst ej
    rw[List.getElem?_append_right (Nat.le_refl _),Nat.sub_self]at hj
    cases hj
    exact⟨u,rfl,by rw[e,hn];exact hu⟩
  ·rw[show ts.length=es.length from hlen]at e
   refine⟨_,rfl,l,ys,es.map nky,rfl,SqL.of hl,by rw[List.length_map,e],by omega,fun i y k h1 h2=>?_,fun z G3 s3 hz=>?_⟩
   ·obtain⟨b,e1,e2⟩:=hy i y h1
    refine⟨b,e1,?_⟩
    rw[List.getElem?_map]at h2
    have hi:=(List.getElem?_eq_some_iff.mp h1).1
    rw[List.getElem?_eq_getElem (show i<es.length by omega)]at h2
    cases h2
    rw[List.getD_eq_getElem?_getD,List.getElem?_eq_getElem (show i<es.length by omega)]at e2
    exact s2 _ _ e2
   ·have hle:=fold_le (es.map nky) []
    rw[List.length_nil,Nat.zero_add,List.length_map]at hle
    refine⟨z,_,rfl,hz,by omega,_,rfl,l,_,rfl,.inl (SqL.of (s3 _ _ hl)),_,_,rfl,rfl,q G3 _ (Same.trans sG (Same.trans s2 s3)) ?_⟩
    rw[decide_eq_true_iff,e]
    rw[<-twin_iff]
    omega
end
theorem nodup_int{R:List Nat}(h:R.Nodup):(R.map fun x:Nat=>(x:Int)).Nodup:=by
 unfold List.Nodup
 rw[List.pairwise_map]
 exact List.Pairwise.imp (fun{a b} q z=>q (Int.ofNat_inj.mp z)) (List.nodup_iff_pairwise_ne.mp h)
theorem nd_len:∀{n:Nat}{l:List Nat},l.Nodup->(∀x∈l,x<n)->l.length<=n:=by
 intro n l hn hl
 have hs:∀(l l':List Nat),l.Nodup->l⊆l'->l.length<=l'.length:=by
  intro l
  induction l with
  |nil=>intro l' _ _;exact Nat.zero_le _
  |cons a l ih=>
   intro l' hn hs
   obtain⟨ha,hn'⟩:=List.nodup_cons.mp hn
   have hm:a∈l':=hs (.head _)
   have:=ih (l'.erase a) hn' fun b hb=>(List.mem_erase_of_ne (show b≠a from fun z=>ha (by rw[<-z];exact hb))).mpr (hs (.tail _ hb))
   rw[List.length_erase_of_mem hm]at this
   have hp:=List.length_pos_of_mem hm
   rw[List.length_cons]
   omega
 have:=hs l (List.range n) hn fun x hx=>List.mem_range.mpr (hl x hx)
 rw[List.length_range]at this
 exact this
theorem sort_nrm{a b:Nat}{ns:List Int}(hp:ns.Perm [(a:Int),(b:Int)])(hs:ns.Pairwise (·<=·)):ns=nky (a,b):=by
 have hl:=hp.length_eq
 match ns,hl with
 |[x,y],_=>
  have hxy:x<=y:=(List.pairwise_cons.mp hs).1 y (.head _)
  have h1:=hp.mem_iff (a:=x)
  have h2:=hp.mem_iff (a:=y)
  have h3:=hp.mem_iff (a:=(a:Int))
  have h4:=hp.mem_iff (a:=(b:Int))
  simp only[List.mem_cons,List.not_mem_nil,or_false,true_or,or_true,true_iff,iff_true]at h1 h2 h3 h4
  show[x,y]=[((min a b:Nat):Int),((max a b:Nat):Int)]
  have e1:x=((min a b:Nat):Int):=by omega
  have e2:y=((max a b:Nat):Int):=by omega
  rw[e1,e2]
section
variable{P:Program}{w:World}{K:PySem.W.Frag}{mg:Str->Option Value}{base:Heap}
abbrev sRi:Stmt:=top 57
abbrev nRi:List Str:=["_law_net_here","_law_ring","_law_k","_law_here","_law_there"]
theorem scRi:FnScope nRi ["_law_net_here","_law_ring"] (defScope sRi):=⟨rfl,rfl,rfl,by decide+kernel,rfl,by decide+kernel,by decide+kernel⟩
def spRi:Sp:=fun vs H Q _=>∃(p:Addr)(n:Nat)(q:Addr)(ts:List V)(es:List (Nat×Nat))(v:V)(R:List Nat)(m:Nat),vs=[.ref p,v]/\NetZ H p n q ts es/\RingAt H es n v R m/\∀H',Same H H'->Q (.bl true) H'
theorem ok_ri{f:Addr}{fd:FuncData}(F:Fun K "_law_is_ring" "_law_is_ring" sRi f fd)(T:Bi mg)(hse:mg "set"=none)(FN:FnE P w K mg base "_law_numbers" nNu 2 spNu):FnOk P w K mg base CX0 3 f fd ["_law_net_here","_law_ring"] spRi:=by
 refine F.ok (k:=2) scRi (fun vs H Q E h=>?_) (fun cdv A outer s H vs Q E hr h=>?_)
 ·obtain⟨p,n,q,ts,es,v,R,m,rfl,_⟩:=h
  rfl
 ·obtain⟨p,n,qa,ts,es,v,R,m,rfl,N,RA,q⟩:=h
  obtain⟨r,rfl,hR⟩:=RA.at_
  have hlen:=RA.len
  have hpos:=RA.pos
  have h60:=N.n60
  have hmn:=nd_len RA.nd RA.lt
  refine⟨_,pss_cons (ps_if (PW.pt (pw_or (pt_not (pt_val (pe_fc FN hr (pa_c (pv 1) (pa_c (pe_ix ix_tup (pv 0) pe_int (fun _ _=>rfl)) pa_nil))))) (pw_or (pt_cmpR op_lt (pe_callB call_len_seq rfl T.len bLen (pa_c (pv 1) pa_nil)) pe_int (nomark _)) (pw_or (pt_cmpR op_eq (pe_op op_mod (pe_callB call_len_seq rfl T.len bLen (pa_c (pv 1) pa_nil)) pe_int) pe_int (nomark _)) (pw_or1 (pt_cmpR op_lt (pe_callB call_lenI rfl T.len bLen (pa_c (pe_callTy (call_setI hr) rfl hse bSet (pa_c (pv 1) pa_nil)) pa_nil)) (pe_callB call_len_seq rfl T.len bLen (pa_c (pv 1) pa_nil)) (nomark _))))))) pss_never pss_nil)
   (pss_cons (ps_for PassesOwn.never rfl (pi_range1 rfl T.range (pa_c (pe_callB call_len_seq rfl T.len bLen (pa_c (pv 1) pa_nil)) pa_nil)) (pg_name (i:=2) scRi.nd rfl (Or.inl rfl))
    (pss_cons (ps_set (i:=3) scRi.nd rfl (Or.inl rfl) (pe_ix ix_tup (pv 1) (pv 2) (fun _ _=>rfl)))
    (pss_cons (ps_set (i:=4) scRi.nd rfl (Or.inl rfl) (pe_ix ix_tup (pv 1) (pe_op op_mod (pe_op op_add (pv 2) pe_int) (pe_callB call_len_seq rfl T.len bLen (pa_c (pv 1) pa_nil))) (fun _ _=>rfl)))
    (pss_one (ps_if (PW.pt (pw_and (pt_cmpR (op_notInTT hr) (pe_tupS (pa_c (pv 3) (pa_c (pv 4) pa_nil))) (pe_ix ix_tup (pv 0) pe_int (fun _ _=>rfl)) rfl) (pw_and1 (pt_cmpR (op_notInTT hr) (pe_tupS (pa_c (pv 4) (pa_c (pv 3) pa_nil))) (pe_ix ix_tup (pv 0) pe_int (fun _ _=>rfl)) rfl)))) pss_never pss_nil)))))
   (pss_one (ps_ret pe_bl))),?_⟩
  refine⟨_,rfl,_,rfl,p,_,_,_,rfl,rfl,SqT.of N.e1,rfl,r,R,n,rfl,hR,by omega,RA.lt,fun H1 s1=>⟨_,rfl,iteF ?_⟩⟩
  have hR1:=s1 _ _ hR
  refine⟨_,rfl,r,_,rfl,.inr (SqT.of hR1),_,_,rfl,rfl,_,rfl,?_⟩
  rw[nl_len,decide_eq_false (by omega)]
  refine iteF ⟨_,rfl,r,_,rfl,.inr (SqT.of hR1),_,_,rfl,rfl,(by show(0:Int)<2;decide),rfl,_,rfl,?_⟩
  rw[decide_eq_false (fun z=>by
   have:=V.int.inj z
   rw[nl_len]at this
   omega)]
  refine iteF ⟨_,rfl,r,_,rfl,by rw[<-nl_int];exact SqT.of hR1,by rw[List.length_map];omega,fun z S G sG hz=>?_⟩
  rw[firstMet_self _ (nodup_int RA.nd),List.length_map]at hz
  have hRG:=sG _ _ hR1
  refine⟨z,S,_,rfl,hz,by omega,_,rfl,r,_,rfl,.inr (SqT.of hRG),_,_,rfl,rfl,_,rfl,?_⟩
  rw[nl_len,decide_eq_false (by omega)]
  refine iteF ?_
  refine⟨_,rfl,r,_,rfl,.inr (SqT.of hRG),_,rfl,by rw[nl_len];omega,by rw[nl_len];omega,?_⟩
  rw[nl_len]
  have s0G:=Same.trans s1 sG
  refine for_range (lo:=0) (n:=((R.length:Nat):Int).toNat) (fun i σ G'=>Same H G'/\∃v2 v3 v4,σ=[some (.ref p),some (.ref r),v2,v3,v4])
   ⟨s0G,_,_,_,rfl⟩ (fun i σ G' hi⟨sG',v2,v3,v4,e⟩=>?_) (fun σ G'⟨sG',v2,v3,v4,e⟩=>?_)
  ·subst e
   rw[Int.toNat_natCast]at hi
   rw[Int.zero_add]
   have hR':=sG' _ _ hR
   have N':=N.same sG'
   obtain⟨x,hx⟩:∃x,R[i]?=some x:=⟨_,List.getElem?_eq_getElem hi⟩
   obtain⟨j,hj,hjl,hjp⟩:∃j:Nat,((i:Int)+1)%(R.length:Int)=(j:Int)/\j<R.length/\(if j=0 then 2*m else j-1)=i:=by
    by_cases z:i+1=R.length
    ·refine⟨0,?_,by omega,?_⟩
     ·rw[show(i:Int)+1=(R.length:Int) by omega,Int.emod_self];rfl
     ·rw[if_pos rfl];omega
    ·refine⟨i+1,?_,by omega,?_⟩
     ·rw[Int.emod_eq_of_lt (by omega) (by omega)];rfl
     ·rw[if_neg (by omega)];omega
   obtain⟨y,hy⟩:∃y,R[j]?=some y:=⟨_,List.getElem?_eq_getElem hjl⟩
   have hadj:=RA.tied j (by omega)
   rw[hjp,List.getD_eq_getElem?_getD,List.getD_eq_getElem?_getD,hx,hy]at hadj
   have hmem:=adj_mem (show y∈Sd.adjF es es.length x from hadj)
   refine⟨_,rfl,_,rfl,r,_,_,_,rfl,rfl,SqT.of hR',atI_nat (nl_get hx),?_⟩
   refine⟨_,rfl,_,rfl,_,_,rfl,rfl,_,rfl,r,_,rfl,.inr (SqT.of hR'),_,_,rfl,rfl,(by show(0:Int)<((nl R).length:Int);rw[nl_len];omega),r,_,_,_,rfl,rfl,SqT.of hR',by rw[nl_len,hj];exact atI_nat (nl_get hy),?_⟩
   refine⟨_,rfl,_,rfl,rfl,fun u G2 s2 hu=>?_⟩
   have N2:=N'.same s2
   obtain⟨tr,htr,htr2,htr3⟩:=N2.tr
   refine⟨_,rfl,p,_,_,_,rfl,rfl,SqT.of N2.e1,rfl,u,qa,[(x:Int),(y:Int)],tr,rfl,rfl,SqT.of hu,by rw[<-htr];exact SqT.of N2.e2,fun t ht=>SqT.of (htr3 t ht),_,rfl,?_⟩
   by_cases hxy:(x,y)∈es
   ·rw[(tr_any htr2 x y).mpr hxy]
    exact iteF (iteF ⟨Same.trans sG' s2,_,_,_,rfl⟩)
   ·have hyx:(y,x)∈es:=hmem.resolve_left hxy
    have hf:(tr.any fun t=>decide (t.2=[(x:Int),(y:Int)]))=false:=by
     cases z:(tr.any fun t=>decide (t.2=[(x:Int),(y:Int)]))with
     |false=>rfl
     |true=>exact absurd ((tr_any htr2 x y).mp z) hxy
    rw[hf]
    refine iteT ⟨_,rfl,_,rfl,rfl,fun u2 G3 s3 hu2=>?_⟩
    have N3:=N2.same s3
    obtain⟨tr',htr',htr2',htr3'⟩:=N3.tr
    refine⟨_,rfl,p,_,_,_,rfl,rfl,SqT.of N3.e1,rfl,u2,qa,[(y:Int),(x:Int)],tr',rfl,rfl,SqT.of hu2,by rw[<-htr'];exact SqT.of N3.e2,fun t ht=>SqT.of (htr3' t ht),_,rfl,?_⟩
    rw[(tr_any htr2' y x).mpr hyx]
    exact iteF ⟨Same.trans sG' (Same.trans s2 s3),_,_,_,rfl⟩
  ·subst e
   exact q G' sG'
abbrev sPr:Stmt:=top 58
abbrev nPr:List Str:=["_law_net_here","_law_pair"]
theorem scPr:FnScope nPr nPr (defScope sPr):=⟨rfl,rfl,rfl,by decide+kernel,rfl,by decide+kernel,by decide+kernel⟩
def spPr:Sp:=fun vs H Q _=>∃(p:Addr)(n:Nat)(q:Addr)(ts:List V)(es:List (Nat×Nat))(v:V),vs=[.ref p,v]/\NetZ H p n q ts es/\PairAt H es v/\∀H',Same H H'->Q (.bl true) H'
theorem ok_pr{f:Addr}{fd:FuncData}(F:Fun K "_law_is_pair" "_law_is_pair" sPr f fd)(T:Bi mg)(hso:mg "sorted"=none)(FN:FnE P w K mg base "_law_numbers" nNu 2 spNu):FnOk P w K mg base CX0 3 f fd nPr spPr:=by
 refine F.ok (k:=2) scPr (fun vs H Q E h=>?_) (fun cdv A outer s H vs Q E hr h=>?_)
 ·obtain⟨p,n,q,ts,es,v,rfl,_⟩:=h
  rfl
 ·obtain⟨p,n,qa,ts,es,v,rfl,N,PA,q⟩:=h
  obtain⟨u,i,j,rfl,hu,hij,hj,hn⟩:=PA
  have hlen:=N.len
  refine⟨_,pss_cons (ps_if (PW.pt (pw_or (pt_not (pt_val (pe_fc FN hr (pa_c (pv 1) (pa_c (pe_callB call_len_seq rfl T.len bLen (pa_c (pe_ix ix_tup (pv 0) pe_int (fun _ _=>rfl)) pa_nil)) pa_nil))))) (pw_or (pt_cmpR op_ne (pe_callB call_len_seq rfl T.len bLen (pa_c (pv 1) pa_nil)) pe_int (nomark _)) (pw_or1 (pt_cmpR op_ge (pe_ix ix_tup (pv 1) pe_int (fun _ _=>rfl)) (pe_ix ix_tup (pv 1) pe_int (fun _ _=>rfl)) (nomark _)))))) pss_never pss_nil)
   (pss_one (ps_ret (pe_cmpR (op_eqS hr) (pe_callB call_sortedT rfl hso bSorted (pa_c (pe_ix ix_tup (pe_ix ix_tup (pv 0) pe_int (fun _ _=>rfl)) (pe_ix ix_tup (pv 1) pe_int (fun _ _=>rfl)) (fun _ _=>rfl)) pa_nil)) (pe_callB call_sortedT rfl hso bSorted (pa_c (pe_ix ix_tup (pe_ix ix_tup (pv 0) pe_int (fun _ _=>rfl)) (pe_ix ix_tup (pv 1) pe_int (fun _ _=>rfl)) (fun _ _=>rfl)) pa_nil)) rfl))),?_⟩
  refine⟨_,rfl,_,rfl,p,_,_,_,rfl,rfl,SqT.of N.e1,rfl,qa,_,rfl,.inr (SqT.of N.e2),u,[i,j],ts.length,rfl,hu,by show 2<=1000;decide,fun x hx=>?_,fun H1 s1=>⟨_,rfl,iteF ?_⟩⟩
  ·simp only[List.mem_cons,List.not_mem_nil,or_false]at hx
   omega
  have hu1:=s1 _ _ hu
  have N1:=N.same s1
  refine⟨_,rfl,u,_,rfl,.inr (SqT.of hu1),rfl,_,rfl,iteF ?_⟩
  refine⟨_,rfl,u,_,_,_,rfl,rfl,SqT.of hu1,rfl,_,rfl,u,_,_,_,rfl,rfl,SqT.of hu1,rfl,_,_,rfl,rfl,_,rfl,?_⟩
  refine ite2 (fun z=>absurd (of_decide_eq_true z) (by omega)) (fun _=>?_)
  obtain⟨ti,hti,hta⟩:=N1.at' (k:=i) (by omega)
  refine⟨_,rfl,p,_,_,_,rfl,rfl,SqT.of N1.e1,rfl,_,rfl,u,_,_,_,rfl,rfl,SqT.of hu1,rfl,qa,_,_,_,rfl,rfl,SqT.of N1.e2,atI_nat hti,ti,[((es.getD i (0,0)).1:Int),((es.getD i (0,0)).2:Int)],rfl,SqT.of hta,by show 2<64;decide,fun l1 n1 G1 t1 g1 p1 o1=>?_⟩
  have N2:=N1.same t1
  have hu2:=t1 _ _ hu1
  obtain⟨tj,htj,htb⟩:=N2.at' (k:=j) hj
  refine⟨_,rfl,p,_,_,_,rfl,rfl,SqT.of N2.e1,rfl,_,rfl,u,_,_,_,rfl,rfl,SqT.of hu2,rfl,qa,_,_,_,rfl,rfl,SqT.of N2.e2,atI_nat htj,tj,[((es.getD j (0,0)).1:Int),((es.getD j (0,0)).2:Int)],rfl,SqT.of htb,by show 2<64;decide,fun l2 n2 G2 t2 g2 p2 o2=>?_⟩
  have e1:=sort_nrm p1 o1
  have e2:=sort_nrm p2 o2
  have e3:n1=n2:=by
   rw[e1,e2]
   have:nrm ((es.getD i (0,0)).1,(es.getD i (0,0)).2)=nrm ((es.getD j (0,0)).1,(es.getD j (0,0)).2):=hn
   unfold nky
   rw[this]
  subst e3
  refine⟨l1,l2,1,rfl,rfl,by decide,?_,q G2 (Same.trans s1 (Same.trans t1 t2))⟩
  refine .inr ⟨l1,l2,_,_,rfl,rfl,.inr ⟨SqL.of (t2 _ _ g1),SqL.of g2⟩,rfl,fun i' a b h1 h2=>?_⟩
  rw[h1]at h2
  cases h2
  rw[List.getElem?_map]at h1
  cases q':n1[i']? with
  |none=>rw[q']at h1;cases h1
  |some x=>rw[q']at h1;cases h1;exact Sam.atom trivial
end
end My
set_option maxHeartbeats 1000000
namespace My
open PySem L2
def AdjE(es:List (Nat×Nat))(x y:Nat):Prop:=(x,y)∈es\/(y,x)∈es
structure DF(es:List (Nat×Nat))(n:Nat)(ks:List Nat)(S:Nat->Int)(P:Nat->Prop)(rt:Nat->Nat)(W:List Nat)(bg:Nat):Prop where
 nd:ks.Nodup
 lt:∀x∈ks,x<n
 wk:∀x∈W,x∈ks/\rt x=bg
 cov:∀x∈ks,P x\/x∈W
 pk:∀x,P x->x∈ks
 pop:∀x,P x->∀y,AdjE es x y->y∈ks/\rt y=rt x
 par:∀x∈ks,(S x=0\/S x=1)/\∀col:Nat->Bool,(∀e∈es,col e.1≠col e.2)->(S x=0↔col x=col (rt x))
structure DH(es:List (Nat×Nat))(n:Nat)(ks:List Nat)(S:Nat->Int)(P:Nat->Prop)(rt:Nat->Nat)(W:List Nat)(bg h i:Nat):Prop where
 nd:ks.Nodup
 lt:∀x∈ks,x<n
 wk:∀x∈W,x∈ks/\rt x=bg
 cov:∀x∈ks,P x\/x∈W\/x=h
 pk:∀x,P x->x∈ks
 pop:∀x,P x->∀y,AdjE es x y->y∈ks/\rt y=rt x
 par:∀x∈ks,(S x=0\/S x=1)/\∀col:Nat->Bool,(∀e∈es,col e.1≠col e.2)->(S x=0↔col x=col (rt x))
 hk:h∈ks
 hr:rt h=bg
 part:∀j,j<i->At (es.getD j (0,0)) h->(es.getD j (0,0)).1+(es.getD j (0,0)).2-h∈ks/\rt ((es.getD j (0,0)).1+(es.getD j (0,0)).2-h)=bg
section
variable{es:List (Nat×Nat)}{n:Nat}{ks:List Nat}{S:Nat->Int}{P:Nat->Prop}{rt:Nat->Nat}{W:List Nat}{bg h i:Nat}
def put1{α:Type}(f:Nat->α)(k:Nat)(v:α):Nat->α:=fun x=>if x=k then v else f x
theorem DF.nil:DF es n [] S (fun _=>False) rt [] bg:=⟨List.nodup_nil,(fun x hx=>by cases hx),(fun x hx=>by cases hx),(fun x hx=>by cases hx),(fun x hx=>hx.elim),(fun x hx=>hx.elim),(fun x hx=>by cases hx)⟩
theorem DF.root(D:DF es n ks S P rt [] bg){b:Nat}(hb:¬b∈ks)(hn:b<n):DF es n (ks++[b]) (put1 S b 0) P (put1 rt b b) [b] b:=by
 have ne:∀x∈ks,x≠b:=fun x hx z=>hb (z▸hx)
 refine⟨?_,fun x hx=>?_,fun x hx=>?_,fun x hx=>?_,fun x hx=>List.mem_append_left _ (D.pk x hx),fun x hx y hy=>?_,fun x hx=>?_⟩
 ·rw[List.nodup_append]
  exact⟨D.nd,List.nodup_cons.mpr ⟨List.not_mem_nil,List.nodup_nil⟩,fun x hx y hy=>by rw[List.mem_singleton.mp hy];exact ne x hx⟩
 ·rcases List.mem_append.mp hx with z|z
  ·exact D.lt x z
  ·rw[List.mem_singleton.mp z];exact hn
 ·rw[List.mem_singleton.mp hx]
  exact⟨List.mem_append_right _ (.head _),by unfold put1;rw[if_pos rfl]⟩
 ·rcases List.mem_append.mp hx with z|z
  ·exact .inl ((D.cov x z).resolve_right fun y=>by cases y)
  ·exact .inr z
 ·obtain⟨h1,h2⟩:=D.pop x hx y hy
  refine⟨List.mem_append_left _ h1,?_⟩
  unfold put1
  rw[if_neg (ne y h1),if_neg (ne x (D.pk x hx))]
  exact h2
 ·unfold put1
  by_cases z:x=b
  ·rw[if_pos z,if_pos z,z]
   exact⟨.inl rfl,fun col _=>⟨fun _=>rfl,fun _=>rfl⟩⟩
  ·rw[if_neg z,if_neg z]
   obtain⟨h1,h2⟩:=D.par x ((List.mem_append.mp hx).resolve_right fun y=>z (List.mem_singleton.mp y))
   refine⟨h1,fun col hc=>?_⟩
   exact h2 col hc
theorem DF.take(D:DF es n ks S P rt (W++[h]) bg):DH es n ks S P rt W bg h 0:=
 ⟨D.nd,D.lt,fun x hx=>D.wk x (List.mem_append_left _ hx),fun x hx=>(D.cov x hx).imp id fun z=>(List.mem_append.mp z).imp id List.mem_singleton.mp,D.pk,D.pop,D.par,(D.wk h (List.mem_append_right _ (.head _))).1,(D.wk h (List.mem_append_right _ (.head _))).2,fun j hj=>absurd hj (Nat.not_lt_zero _)⟩
theorem oth_adj(ok:∀e∈es,e.1≠e.2) {j:Nat} (hj:j<es.length) (ha:At (es.getD j (0,0)) h):AdjE es h ((es.getD j (0,0)).1+(es.getD j (0,0)).2-h)/\(es.getD j (0,0)).1+(es.getD j (0,0)).2-h≠h:=by
 have hm:=getD_mem (es:=es) hj
 have hne:=ok _ hm
 rcases ha with z|z
 ·have e:(es.getD j (0,0)).1+(es.getD j (0,0)).2-h=(es.getD j (0,0)).2:=by omega
  rw[e]
  exact⟨.inl (by rw[z];exact hm),by omega⟩
 ·have e:(es.getD j (0,0)).1+(es.getD j (0,0)).2-h=(es.getD j (0,0)).1:=by omega
  rw[e]
  exact⟨.inr (by rw[z];exact hm),by omega⟩
theorem DH.skip(D:DH es n ks S P rt W bg h i)(ha:¬At (es.getD i (0,0)) h):DH es n ks S P rt W bg h (i+1):=
 ⟨D.nd,D.lt,D.wk,D.cov,D.pk,D.pop,D.par,D.hk,D.hr,fun j hj hA=>by
  rcases Nat.lt_succ_iff_lt_or_eq.mp hj with z|z
  ·exact D.part j z hA
  ·subst z;exact absurd hA ha⟩
theorem DH.old(D:DH es n ks S P rt W bg h i)(ok:∀e∈es,e.1≠e.2) (hi:i<es.length) (ha:At (es.getD i (0,0)) h) (hy:(es.getD i (0,0)).1+(es.getD i (0,0)).2-h∈ks):DH es n ks S P rt W bg h (i+1):=by
 obtain⟨hadj,hne⟩:=oth_adj ok hi ha
 refine⟨D.nd,D.lt,D.wk,D.cov,D.pk,D.pop,D.par,D.hk,D.hr,fun j hj hA=>?_⟩
 rcases Nat.lt_succ_iff_lt_or_eq.mp hj with z|z
 ·exact D.part j z hA
 ·subst z
  refine⟨hy,?_⟩
  rcases D.cov _ hy with z|z|z
  ·have:=(D.pop _ z h hadj.symm).2
   rw[D.hr]at this
   exact this.symm
  ·exact(D.wk _ z).2
  ·exact absurd z hne
theorem DH.new(D:DH es n ks S P rt W bg h i)(ok:∀e∈es,e.1≠e.2) (lt:∀e∈es,e.1<n/\e.2<n) (hi:i<es.length) (ha:At (es.getD i (0,0)) h) {y:Nat} (hye:(es.getD i (0,0)).1+(es.getD i (0,0)).2-h=y) (hy:¬y∈ks):
  DH es n (ks++[y]) (put1 S y (1-S h)) P (put1 rt y bg) (W++[y]) bg h (i+1):=by
 obtain⟨hadj,hne⟩:=oth_adj ok hi ha
 rw[hye]at hadj hne
 have ne:∀x∈ks,x≠y:=fun x hx z=>hy (z▸hx)
 have hhy:h≠y:=ne h D.hk
 refine⟨?_,fun x hx=>?_,fun x hx=>?_,fun x hx=>?_,fun x hx=>List.mem_append_left _ (D.pk x hx),fun x hx z hz=>?_,fun x hx=>?_,List.mem_append_left _ D.hk,?_,fun j hj hA=>?_⟩
 ·rw[List.nodup_append]
  exact⟨D.nd,List.nodup_cons.mpr ⟨List.not_mem_nil,List.nodup_nil⟩,fun x hx z hz=>by rw[List.mem_singleton.mp hz];exact ne x hx⟩
 ·rcases List.mem_append.mp hx with z|z
  ·exact D.lt x z
  ·rw[List.mem_singleton.mp z,<-hye]
   have:=lt _ (getD_mem (es:=es) hi)
   rcases ha with q|q<;>omega
 ·rcases List.mem_append.mp hx with z|z
  ·obtain⟨h1,h2⟩:=D.wk x z
   refine⟨List.mem_append_left _ h1,?_⟩
   unfold put1
   rw[if_neg (ne x h1)]
   exact h2
  ·rw[List.mem_singleton.mp z]
   exact⟨List.mem_append_right _ (.head _),by unfold put1;rw[if_pos rfl]⟩
 ·rcases List.mem_append.mp hx with z|z
  ·rcases D.cov x z with q|q|q
   ·exact .inl q
   ·exact .inr (.inl (List.mem_append_left _ q))
   ·exact .inr (.inr q)
  ·exact .inr (.inl (List.mem_append_right _ z))
 ·obtain⟨h1,h2⟩:=D.pop x hx z hz
  refine⟨List.mem_append_left _ h1,?_⟩
  unfold put1
  rw[if_neg (ne z h1),if_neg (ne x (D.pk x hx))]
  exact h2
 ·obtain⟨g1,g2⟩:=D.par h D.hk
  by_cases z:x=y
  ·subst z
   unfold put1
   rw[if_pos rfl,if_pos rfl]
   refine⟨by omega,fun col hc=>?_⟩
   have g3:=g2 col hc
   rw[D.hr]at g3
   have hcx:col x= !col h:=by
    rcases hadj with q|q
    ·have:=hc _ q;revert this;cases col h<;>cases col x<;>simp
    ·have:=hc _ q;revert this;cases col h<;>cases col x<;>simp
   rw[hcx]
   rcases g1 with q|q
   ·rw[q]
    have e1:=g3.mp q
    rw[e1]
    constructor
    ·intro z;omega
    ·intro z;revert z;cases col bg<;>simp
   ·rw[q]
    have e1:¬col h=col bg:=fun z=>by have:=g3.mpr z;omega
    constructor
    ·intro _;revert e1;cases col h<;>cases col bg<;>simp
    ·intro _;rfl
  ·have hxk:=(List.mem_append.mp hx).resolve_right fun q=>z (List.mem_singleton.mp q)
   unfold put1
   rw[if_neg z,if_neg z]
   exact D.par x hxk
 ·unfold put1
  rw[if_neg hhy]
  exact D.hr
 ·rcases Nat.lt_succ_iff_lt_or_eq.mp hj with z|z
  ·obtain⟨h1,h2⟩:=D.part j z hA
   refine⟨List.mem_append_left _ h1,?_⟩
   unfold put1
   rw[if_neg (ne _ h1)]
   exact h2
  ·subst z
   rw[hye]
   exact⟨List.mem_append_right _ (.head _),by unfold put1;rw[if_pos rfl]⟩
theorem DH.done(D:DH es n ks S P rt W bg h es.length):DF es n ks S (fun x=>P x\/x=h) rt W bg:=by
 refine⟨D.nd,D.lt,D.wk,fun x hx=>?_,fun x hx=>?_,fun x hx y hy=>?_,D.par⟩
 ·rcases D.cov x hx with q|q|q
  ·exact .inl (.inl q)
  ·exact .inr q
  ·exact .inl (.inr q)
 ·rcases hx with q|q
  ·exact D.pk x q
  ·rw[q];exact D.hk
 ·rcases hx with q|q
  ·exact D.pop x q y hy
  ·subst q
   obtain⟨j,hj,hA,hy2⟩:∃j,j<es.length/\At (es.getD j (0,0)) x/\(es.getD j (0,0)).1+(es.getD j (0,0)).2-x=y:=by
    rcases hy with q|q
    ·obtain⟨j,hj⟩:=List.getElem?_of_mem q
     refine⟨j,(List.getElem?_eq_some_iff.mp hj).1,?_,?_⟩
     ·rw[List.getD_eq_getElem?_getD,hj];exact .inl rfl
     ·rw[List.getD_eq_getElem?_getD,hj];show x+y-x=y;omega
    ·obtain⟨j,hj⟩:=List.getElem?_of_mem q
     refine⟨j,(List.getElem?_eq_some_iff.mp hj).1,?_,?_⟩
     ·rw[List.getD_eq_getElem?_getD,hj];exact .inr rfl
     ·rw[List.getD_eq_getElem?_getD,hj];show y+x-x=y;omega
   obtain⟨h1,h2⟩:=D.part j hj hA
   rw[hy2]at h1 h2
   exact⟨h1,by rw[h2,D.hr]⟩
theorem DF.two(D:DF es n ks S P rt [] bg)(all:∀x,x<n->x∈ks) (lt:∀e∈es,e.1<n/\e.2<n):(∀e∈es,S e.1≠S e.2)↔Two es:=by
 constructor
 ·intro hS
  refine⟨fun x=>decide (S x=0),fun e he=>?_⟩
  obtain⟨l1,l2⟩:=lt e he
  have h1:=(D.par _ (all _ l1)).1
  have h2:=(D.par _ (all _ l2)).1
  have h3:=hS e he
  dsimp only
  rcases h1 with q1|q1<;>rcases h2 with q2|q2
  ·omega
  ·rw[q1,q2];decide
  ·rw[q1,q2];decide
  ·omega
 ·rintro⟨col,hc⟩ e he z
  obtain⟨l1,l2⟩:=lt e he
  have k1:=all _ l1
  have k2:=all _ l2
  have p1:=(D.cov _ k1).resolve_right fun q=>by cases q
  have hr:=(D.pop _ p1 e.2 (.inl he)).2
  have h1:=(D.par _ k1).2 col hc
  have h2:=(D.par _ k2).2 col hc
  rw[hr]at h2
  have hne:=hc e he
  rw[<-z]at h2
  by_cases q:S e.1=0
  ·exact hne ((h1.mp q).trans (h2.mp q).symm)
  ·have a1:¬col e.1=col (rt e.1):=fun y=>q (h1.mpr y)
   have a2:¬col e.2=col (rt e.1):=fun y=>q (h2.mpr y)
   revert a1 a2 hne
   cases col e.1<;>cases col e.2<;>cases col (rt e.1)<;>simp
end
def kvL(ks:List Nat)(S:Nat->Int):List (Key×V):=ks.map fun k:Nat=>(Sum.inl (k:Int),V.int (S k))
theorem kvL_val{S:Nat->Int}{x:Nat}:∀{ks:List Nat},valV (kvL ks S) (Sum.inl (x:Int))=if x∈ks then some (V.int (S x))else none
 |[]=>by rw[if_neg (List.not_mem_nil)];rfl
 |k::ks=>by
  by_cases h:k=x
  ·subst h
   rw[if_pos (.head _)]
   exact valV_pos rfl
  ·show valV ((Sum.inl (k:Int),V.int (S k))::kvL ks S) _=_
   rw[valV_neg (fun z=>h (by have:=Sum.inl.inj z;omega)),kvL_val]
   by_cases h2:x∈ks
   ·rw[if_pos h2,if_pos (.tail _ h2)]
   ·rw[if_neg h2,if_neg (fun z=>(List.mem_cons.mp z).elim (fun e=>h e.symm) h2)]
theorem kvL_put{ks:List Nat}{S:Nat->Int}{y:Nat}{v:Int}(h:¬y∈ks):putK (kvL ks S) (Sum.inl (y:Int)) (V.int v)=kvL (ks++[y]) (put1 S y v):=by
 rw[putK_new _ (by rw[kvL_val,if_neg h])]
 unfold kvL
 rw[List.map_append]
 have e1:(ks.map fun k:Nat=>((Sum.inl (k:Int):Key),V.int (S k)))=ks.map fun k:Nat=>((Sum.inl (k:Int):Key),V.int (put1 S y v k)):=by
  refine List.map_congr_left fun k hk=>?_
  have hne:k≠y:=fun z=>h (by rw[<-z];exact hk)
  unfold put1
  rw[if_neg hne]
 have e2:v=put1 S y v y:=by unfold put1;rw[if_pos rfl]
 rw[e1]
 exact congrArg (fun z=>(ks.map fun k:Nat=>((Sum.inl (k:Int):Key),V.int (put1 S y v k)))++[((Sum.inl (y:Int):Key),V.int z)]) e2
theorem kvL_len(ks:List Nat)(S:Nat->Int):(kvL ks S).length=ks.length:=by unfold kvL;rw[List.length_map]
section
variable{P:Program}{w:World}{K:PySem.W.Frag}{mg:Str->Option Value}{base:Heap}
abbrev sTs:Stmt:=top 54
abbrev nTs:List Str:=["_law_net_here","_law_side","_law_begin","_law_waiting","_law_here","_law_tie_here","_law_there"]
abbrev tsS:Scope:=compScope (retE (stOf 54 2))
theorem ndTs:(["_law_tie_here","_law_side"]:List Str).Nodup:=by decide+kernel
theorem scTs:FnScope nTs ["_law_net_here"] (defScope sTs):=⟨rfl,rfl,rfl,by decide+kernel,rfl,by decide+kernel,by decide+kernel⟩
theorem blkTs{f:Addr}{cdv:Value}{A:Around}{outer:List Env}{s:Shared}{H:Hp}{E:XK}:
  Blk (cxOf CX0 P w K mg base nTs "_law_two_sided" (defScope sTs) f cdv A outer s H E).nox tsS [("_law_side",s.heap.objs.size+1)] ["_law_tie_here","_law_side"] [none,some 1]:=by
 refine⟨rfl,rfl,by decide+kernel,by decide+kernel,fun p hp=>?_,fun y hy e=>?_,⟨rfl,rfl,rfl⟩,trivial⟩
 ·rw[List.mem_singleton.mp hp]
  rfl
 ·have hy':y∈[((PySem.Str.ofString ".0":Str),NameKind.local),(PySem.Str.ofString "_law_tie_here",.local),(PySem.Str.ofString "_law_side",.free)]:=hy
  simp only[List.mem_cons,List.not_mem_nil,or_false]at hy'
  rcases hy' with rfl|rfl|rfl<;>first|rfl|cases e
def spTs:Sp:=fun vs H Q _=>∃(p:Addr)(n:Nat)(q:Addr)(ts:List V)(es:List (Nat×Nat)),vs=[.ref p]/\NetZ H p n q ts es/\∀H' b,Same H H'->(b=true↔Two es)->Q (.bl b) H'
theorem ok_ts{f:Addr}{fd:FuncData}(F:Fun K "_law_two_sided" "_law_two_sided" sTs f fd)(T:Bi mg):FnOk P w K mg base CX0 1 f fd ["_law_net_here"] spTs:=by
 refine F.ok scTs (fun vs H Q E h=>?_) (fun cdv A outer s H vs Q E hr h=>?_)
 ·obtain⟨p,n,q,ts,es,rfl,_⟩:=h
  rfl
 ·obtain⟨p,n,qa,ts,es,rfl,N,q⟩:=h
  have hu:=hu_of hr
  have h200:=N.l200
  have h60:=N.n60
  have hlen:=N.len
  have okne:∀e∈es,e.1≠e.2:=fun e he=>(N.ok e he).2.2
  have oklt:∀e∈es,e.1<n/\e.2<n:=fun e he=>⟨(N.ok e he).1,(N.ok e he).2.1⟩
  refine⟨_,pss_cons (ps_set (i:=1) scTs.nd rfl (Or.inr rfl) pe_dnewK)
   (pss_cons (ps_for PassesOwn.never rfl (pi_range1 rfl T.range (pa_c (pe_ix ix_tup (pv 0) pe_int (fun _ _=>rfl)) pa_nil)) (pg_name (i:=2) scTs.nd rfl (Or.inl rfl))
    (pss_one (ps_if (pt_cmp (pc_dnotin hu (pv 2) (pv 1)))
     (pss_cons (ps_dput hu (pv 1) (pv 2) pe_int rfl)
     (pss_cons (ps_set (i:=3) scTs.nd rfl (Or.inl rfl) (pe_lst (pa_c (pv 2) pa_nil)))
     (pss_one (ps_while PassesOwn.never (pt_cmpR op_gt (pe_callB call_len_seq rfl T.len bLen (pa_c (pv 3) pa_nil)) pe_int (nomark _))
      (pss_cons (ps_set (i:=4) scTs.nd rfl (Or.inl rfl) (pe_bm0 PySem.F.plainAttrs_list PySem.F.slot_list_pop PySem.F.type_list_pop mt_pop (pv 3)))
      (pss_one (ps_for PassesOwn.never rfl (pi_tup (pe_ix ix_tup (pv 0) pe_int (fun _ _=>rfl))) (pg_name (i:=5) scTs.nd rfl (Or.inl rfl))
       (pss_one (ps_if (pt_cmpR op_in_seq (pv 4) (pv 5) rfl)
        (pss_cons (ps_set (i:=6) scTs.nd rfl (Or.inl rfl) (pe_op op_sub (pe_op op_add (pe_ix ix_tup (pv 5) pe_int (fun _ _=>rfl)) (pe_ix ix_tup (pv 5) pe_int (fun _ _=>rfl))) (pv 4)))
        (pss_one (ps_if (pt_cmp (pc_dnotin hu (pv 6) (pv 1)))
         (pss_cons (ps_dput hu (pv 1) (pv 6) (pe_op op_sub pe_int (pe_dget hu (pv 1) (pv 4) (fun _ _=>rfl))) rfl)
         (pss_one (ps_expr (pe_bm PySem.F.plainAttrs_list PySem.F.slot_list_append PySem.F.type_list_append mt_append (pv 3) (pa_c (pv 6) pa_nil))))) pss_nil))) pss_nil))))))))) pss_nil)))
   (pss_one (ps_ret (pe_cmpR (op_eqLE hr) (pe_lcT blkTs rfl (pe_ix ix_tup (pv 0) pe_int (fun _ _=>rfl)) (mono_ixT (mono_var 0) (mono_c _)) (fun C fp s H=>pg_name (i:=0) ndTs rfl (Or.inl rfl))
    (fun C fp s H=>pts_one (pt_cmpR op_eq (pe_dget hu (pv 1) (pe_ix (ix_tupX (K:=K) rfl) (pv 0) pe_int (fun _ _=>rfl)) (fun _ _=>rfl)) (pe_dget hu (pv 1) (pe_ix (ix_tupX (K:=K) rfl) (pv 0) pe_int (fun _ _=>rfl)) (fun _ _=>rfl)) (nomark _))) (fun C fp s H=>pv 0)) (pe_lstS pa_nil) rfl)))),?_⟩
  refine fun d hd=>?_
  have s0:Same H (upd H d (.dK [])):=same_new hd
  refine⟨_,rfl,p,_,_,_,rfl,rfl,SqT.of (s0 _ _ N.e1),rfl,(n:Int),rfl,by omega,by omega,?_⟩
  refine for_range (lo:=0) (n:=((n:Nat):Int).toNat) (fun b σ G=>∃(ks:List Nat)(S:Nat->Int)(Pp:Nat->Prop)(rt:Nat->Nat)(bg:Nat)(v2 v3 v4 v5 v6:Option V),σ=[some (.ref p),some (.ref d),v2,v3,v4,v5,v6]/\Same H G/\G d=some (.dK (kvL ks S))/\DF es n ks S Pp rt [] bg/\∀x,x<b->x∈ks)
   ⟨[],fun _=>0,fun _=>False,fun _=>0,0,_,_,_,_,_,rfl,s0,upd_same,DF.nil,fun x hx=>absurd hx (Nat.not_lt_zero _)⟩ (fun b σ G hb⟨ks,S,Pp,rt,bg,v2,v3,v4,v5,v6,e,sG,hG,D,hall⟩=>?_) (fun σ G⟨ks,S,Pp,rt,bg,v2,v3,v4,v5,v6,e,sG,hG,D,hall⟩=>?_)
  ·subst e
   rw[Int.toNat_natCast]at hb
   rw[Int.zero_add]
   have hg0:=DGet.k (k:=Sum.inl (b:Int)) hG
   rw[kvL_val]at hg0
   refine⟨_,rfl,_,rfl,d,_,rfl,hg0,_,rfl,?_⟩
   by_cases hbk:b∈ks
   ·rw[if_pos hbk]
    refine iteF ⟨ks,S,Pp,rt,bg,_,_,_,_,_,rfl,sG,hG,D,fun x hx=>?_⟩
    rcases Nat.lt_succ_iff_lt_or_eq.mp hx with z|z
    ·exact hall x z
    ·rw[z];exact hbk
   ·rw[if_neg hbk]
    have hkl:=nd_len D.nd D.lt
    have hsz:(kvL ks S).length<sizeLine:=by rw[kvL_len];exact Nat.lt_of_lt_of_le (show ks.length<1000 by omega) (leMil (by decide))
    refine iteT ⟨_,rfl,_,rfl,d,_,rfl,DPut.k (k:=Sum.inl (b:Int)) hG hsz,?_⟩
    rw[kvL_put hbk]
    have s1:Same H (upd G d (.dK (kvL (ks++[b]) (put1 S b 0)))):=sG.wr hd
    refine⟨_,rfl,(by show 1<=sizeLine;decide),fun wa hwa=>?_⟩
    have hdw:d≠wa:=fun z=>by rw[<-z,upd_same]at hwa;cases hwa
    have hw0:H wa=none:=s1.none hwa
    refine⟨fun m σ G'=>∃(ks:List Nat)(S:Nat->Int)(Pp:Nat->Prop)(rt:Nat->Nat)(W:List Nat)(v4 v5 v6:Option V),m=2*(n-ks.length)+W.length/\σ=[some (.ref p),some (.ref d),some (.int (b:Int)),some (.ref wa),v4,v5,v6]/\Same H G'/\G' d=some (.dK (kvL ks S))/\G' wa=some (.lst (nl W))/\DF es n ks S Pp rt W b/\(∀x,x<b+1->x∈ks)/\W.length<=ks.length,
     ⟨_,ks++[b],put1 S b 0,Pp,put1 rt b b,[b],_,_,_,rfl,rfl,s1.trans (same_new hwa),by rw[upd_ne hdw,upd_same],upd_same,D.root hbk hb,fun x hx=>?_,by rw[List.length_append];simp⟩,?_⟩
    ·rcases Nat.lt_succ_iff_lt_or_eq.mp hx with z|z
     ·exact List.mem_append_left _ (hall x z)
     ·rw[z];exact List.mem_append_right _ (.head _)
    rintro m σ G' ⟨ks,S,Pp,rt,W,v4,v5,v6,rfl,rfl,sG',hG',hW,D,hall,hWl⟩
    refine⟨_,rfl,wa,_,rfl,.inl (SqL.of hW),_,_,rfl,rfl,_,rfl,?_⟩
    rw[nl_len]
    refine ite2 (fun hz=>?_) (fun hz=>?_)
    ·obtain⟨w',x,rfl⟩:∃w' x,W=w'++[x]:=by
      rcases List.eq_nil_or_concat W with e|⟨w',x,e⟩
      ·subst e;cases hz
      ·exact⟨w',x,by rw[e,List.concat_eq_append]⟩
     have hwl:nl (w'++[x])=nl w'++[.int (x:Int)]:=(nl_app w' x).symm
     have hdrop:(nl (w'++[x])).dropLast=nl w':=by rw[hwl,List.dropLast_concat]
     refine⟨fun σ' G''=>∃m',m'<2*(n-ks.length)+(w'++[x]).length/\∃(ks:List Nat)(S:Nat->Int)(Pp:Nat->Prop)(rt:Nat->Nat)(W:List Nat)(v4 v5 v6:Option V),m'=2*(n-ks.length)+W.length/\σ'=[some (.ref p),some (.ref d),some (.int (b:Int)),some (.ref wa),v4,v5,v6]/\Same H G''/\G'' d=some (.dK (kvL ks S))/\G'' wa=some (.lst (nl W))/\DF es n ks S Pp rt W b/\(∀x,x<b+1->x∈ks)/\W.length<=ks.length,fun _ _ h=>h,?_⟩
     refine⟨_,rfl,.inl ⟨rfl,_,SqL.of hW⟩,wa,_,.int (x:Int),rfl,rfl,hW,(by rw[hwl,List.length_append,List.length_singleton,Nat.add_sub_cancel,List.getElem?_append_right (Nat.le_refl _),Nat.sub_self];rfl),?_⟩
     rw[hdrop]
     have s2:Same H (upd G' wa (.lst (nl w'))):=sG'.wr hw0
     have hxl:=D.lt x (D.wk x (List.mem_append_right _ (.head _))).1
     have hks0:=nd_len D.nd D.lt
     refine⟨_,rfl,p,_,_,_,rfl,rfl,SqT.of (s2 _ _ N.e1),rfl,qa,rfl,⟨_,SqT.of (s2 _ _ N.e2)⟩,for_tup (K:=K) (a:=qa) (xs:=ts) (fun i σ G''=>∃(ks':List Nat)(S':Nat->Int)(rt':Nat->Nat)(W':List Nat)(v5 v6:Option V),σ=[some (.ref p),some (.ref d),some (.int (b:Int)),some (.ref wa),some (.int (x:Int)),v5,v6]/\Same H G''/\G'' d=some (.dK (kvL ks' S'))/\G'' wa=some (.lst (nl W'))/\DH es n ks' S' Pp rt' W' b x i/\(∀z,z<b+1->z∈ks')/\W'.length+ks.length=w'.length+ks'.length/\ks.length<=ks'.length)
      ⟨ks,S,rt,w',_,_,rfl,s2,by rw[upd_ne hdw];exact hG',upd_same,D.take,hall,rfl,Nat.le_refl _⟩ (fun i σ G'' _⟨_,_,_,_,_,_,_,s3,_⟩=>SqT.of (s3 _ _ N.e2)) (fun i y σ G'' hy⟨ks',S',rt',W',v5,v6,e,s3,hd3,hw3,DD,hall',hc1,hc2⟩=>?_) (fun σ G''⟨ks',S',rt',W',v5,v6,e,s3,hd3,hw3,DD,hall',hc1,hc2⟩=>?_)⟩
     ·subst e
      have hi:i<es.length:=by rw[<-hlen];exact(List.getElem?_eq_some_iff.mp hy).1
      obtain⟨a,rfl,ha⟩:=N.tie i y hy
      have ha3:=s3 _ _ ha
      refine⟨_,rfl,_,rfl,a,_,rfl,.inr (SqT.of ha3),rfl,rfl,_,rfl,?_⟩
      refine ite2 (fun hh=>?_) (fun hh=>?_)
      ·have hA:=(in_at x (es.getD i (0,0))).mp hh
       obtain⟨hadj,hne⟩:=oth_adj okne hi hA
       obtain⟨y,hye⟩:∃y,(es.getD i (0,0)).1+(es.getD i (0,0)).2-x=y:=⟨_,rfl⟩
       have hle:x<=(es.getD i (0,0)).1+(es.getD i (0,0)).2:=by rcases hA with z|z<;>omega
       refine⟨_,rfl,a,_,_,_,rfl,rfl,SqT.of ha3,rfl,_,rfl,a,_,_,_,rfl,rfl,SqT.of ha3,rfl,_,_,rfl,rfl,_,rfl,_,_,rfl,rfl,?_⟩
       dsimp only[gName]
       rw[show((es.getD i (0,0)).1:Int)+((es.getD i (0,0)).2:Int)-(x:Int)=(y:Int) by omega]
       have hg1:=DGet.k (k:=Sum.inl (y:Int)) hd3
       rw[kvL_val]at hg1
       refine⟨_,rfl,_,rfl,d,_,rfl,hg1,_,rfl,?_⟩
       by_cases hyk:y∈ks'
       ·rw[if_pos hyk]
        exact iteF ⟨ks',S',rt',W',_,_,rfl,s3,hd3,hw3,DD.old okne hi hA (by rw[hye];exact hyk),hall',hc1,hc2⟩
       ·rw[if_neg hyk]
        have hkl:=nd_len DD.nd DD.lt
        have hsz:(kvL ks' S').length<sizeLine:=by rw[kvL_len];exact Nat.lt_of_lt_of_le (show ks'.length<1000 by omega) (leMil (by decide))
        have hg2:=DGet.k (k:=Sum.inl (x:Int)) hd3
        rw[kvL_val,if_pos DD.hk]at hg2
        refine iteT ⟨_,rfl,_,rfl,d,_,rfl,hg2,_,_,rfl,rfl,_,rfl,_,rfl,d,_,rfl,DPut.k (k:=Sum.inl (y:Int)) hd3 hsz,?_⟩
        rw[kvL_put hyk]
        have hw4:upd G'' d (.dK (kvL (ks'++[y]) (put1 S' y (1-S' x)))) wa=some (.lst (nl W')):=by rw[upd_ne (Ne.symm hdw)];exact hw3
        have hWs:(nl W').length<sizeLine:=by rw[nl_len];exact Nat.lt_of_lt_of_le (show W'.length<1000 by rw[List.length_append]at hWl;simp only[List.length_cons,List.length_nil]at hWl;omega) (leMil (by decide))
        refine⟨_,rfl,.inl ⟨rfl,_,SqL.of hw4⟩,_,rfl,wa,_,_,rfl,rfl,hw4,hWs,?_⟩
        refine⟨ks'++[y],put1 S' y (1-S' x),put1 rt' y b,W'++[y],_,_,rfl,(s3.wr hd).wr hw0,by rw[upd_ne hdw,upd_same],by rw[upd_same,nl_app],DD.new okne oklt hi hA hye hyk,fun z hz=>List.mem_append_left _ (hall' z hz),?_,?_⟩
        ·rw[List.length_append,List.length_append];simp only[List.length_cons,List.length_nil];omega
        ·rw[List.length_append];omega
      ·exact⟨ks',S',rt',W',_,_,rfl,s3,hd3,hw3,DD.skip fun z=>hh ((in_at x (es.getD i (0,0))).mpr z),hall',hc1,hc2⟩
     ·subst e
      rw[hlen]at DD
      have hkl:=nd_len DD.nd DD.lt
      refine⟨_,?_,ks',S',fun z=>Pp z\/z=x,rt',W',_,_,_,rfl,rfl,s3,hd3,hw3,DD.done,hall',?_⟩
      ·rw[List.length_append];simp only[List.length_cons,List.length_nil];omega
      ·rw[List.length_append]at hWl;simp only[List.length_cons,List.length_nil]at hWl;omega
    ·have hW0:W=[]:=by
      cases W with
      |nil=>rfl
      |cons a l=>exact absurd (decide_eq_true (by simp only[List.length_cons];omega)) hz
     subst hW0
     exact⟨ks,S,Pp,rt,b,_,_,_,_,_,rfl,sG',hG',D,hall⟩
  ·subst e
   rw[Int.toNat_natCast]at hall
   have two:=D.two hall oklt
   have NG:=N.same sG
   refine⟨_,rfl,p,_,_,_,rfl,rfl,SqT.of NG.e1,rfl,qa,_,rfl,SqT.of NG.e2,by omega,fun i ys σ G'=>Same G G'/\ys.length<=i/\(ys.length=0↔∀j,j<i->S (es.getD j (0,0)).1≠S (es.getD j (0,0)).2)/\∃v0,σ=[v0,some (.ref d)],⟨Same.refl G,Nat.le_refl _,⟨fun _ j hj=>absurd hj (Nat.not_lt_zero _),fun _=>rfl⟩,none,rfl⟩,fun i ys σ G' hi⟨sG',e,_⟩=>⟨SqT.of (sG' _ _ NG.e2),e⟩,fun i x ys σ G' hx⟨sG',e,hy,v0,eσ⟩=>?_,fun ys σ G'⟨sG',e,hy,_⟩ l G2 s2 hl=>?_⟩
   ·subst eσ
    have hi:i<es.length:=by rw[<-hlen];exact(List.getElem?_eq_some_iff.mp hx).1
    obtain⟨a,rfl,ha⟩:=NG.tie i x hx
    have ha':=sG' _ _ ha
    have hG':=sG' _ _ hG
    obtain⟨l1,l2⟩:=oklt _ (getD_mem (es:=es) hi)
    have hg1:=DGet.k (k:=Sum.inl ((es.getD i (0,0)).1:Int)) hG'
    rw[kvL_val,if_pos (hall _ l1)]at hg1
    have hg2:=DGet.k (k:=Sum.inl ((es.getD i (0,0)).2:Int)) hG'
    rw[kvL_val,if_pos (hall _ l2)]at hg2
    refine⟨_,rfl,_,rfl,a,_,_,_,rfl,rfl,SqT.of ha',rfl,d,_,rfl,hg1,_,rfl,_,rfl,a,_,_,_,rfl,rfl,SqT.of ha',rfl,d,_,rfl,hg2,rfl,_,rfl,?_⟩
    refine ite2 (fun hh=>?_) (fun hh=>?_)
    ·have hS:=V.int.inj (of_decide_eq_true hh)
     refine⟨_,rfl,sG',by rw[List.length_append];simp only[List.length_cons,List.length_nil];omega,⟨fun z=>?_,fun z=>absurd hS (z i (Nat.lt_succ_self _))⟩,_,rfl⟩
     rw[List.length_append]at z
     simp only[List.length_cons,List.length_nil]at z
     omega
    ·refine⟨sG',by omega,⟨fun z j hj=>?_,fun z=>hy.mpr fun j hj=>z j (by omega)⟩,_,rfl⟩
     rcases Nat.lt_succ_iff_lt_or_eq.mp hj with y|y
     ·exact hy.mp z j y
     ·subst y
      exact fun c=>hh (decide_eq_true (by rw[c]))
   ·rw[hlen]at hy
    refine⟨rfl,fun l0 G3 s3 hl0=>⟨l,l0,_,rfl,rfl,SqL.of (s3 _ _ hl),SqL.of hl0,q G3 _ (Same.trans sG (Same.trans sG' (Same.trans s2 s3))) ?_⟩⟩
    rw[beq_iff_eq,hy,<-two]
    constructor
    ·intro z e he
     obtain⟨j,hj⟩:=List.getElem?_of_mem he
     have:=z j (List.getElem?_eq_some_iff.mp hj).1
     rw[List.getD_eq_getElem?_getD,hj]at this
     exact this
    ·intro z j hj
     exact z _ (getD_mem (es:=es) hj)
end
structure Gw(mg:Str->Option Value)(cN cR cP cT a1 a2 a3 a4 a5 a6 a7 te:Addr):Prop where
 gN:mg "NoTie"=some (.ref cN)
 gR:mg "NotTwoSided"=some (.ref cR)
 gP:mg "NotPlain"=some (.ref cP)
 gT:mg "TooFew"=some (.ref cT)
 g1:mg "NoMeeting"=some (.ref a1)
 g2:mg "NoName"=some (.ref a2)
 g3:mg "NoStep"=some (.ref a3)
 g4:mg "NoText"=some (.ref a4)
 g5:mg "NotAlike"=some (.ref a5)
 g6:mg "NotClean"=some (.ref a6)
 g7:mg "TooGreat"=some (.ref a7)
 gE:mg "TintError"=some (.ref te)
 hv:mg "ValueError"=none
structure Kw(K:PySem.W.Frag)(cN cR cP cT a1 a2 a3 a4 a5 a6 a7 te:Addr)(C:Addr)(k:Nat):Prop where
 k0:PySem.W.kitOne K (.ref C) (.ref cN)=some (decide (k=0))
 k1:PySem.W.kitOne K (.ref C) (.ref cR)=some (decide (k=1))
 k2:PySem.W.kitOne K (.ref C) (.ref cP)=some (decide (k=2))
 k3:PySem.W.kitOne K (.ref C) (.ref cT)=some (decide (k=3))
 k4:PySem.W.kitAny K (.ref C) [.ref a1,.ref a2,.ref a3,.ref a4]=some false
 k5:PySem.W.kitAny K (.ref C) [.ref a5,.ref a6,.ref a7]=some false
 kv:PySem.W.kitOne K (.ref C) (.type "ValueError")=some true
 ke:PySem.W.kitCls K (.ref C) (.ref te)=some true
 gt:RX.XGet K C
def wrd:Nat->Str
 |0=>"tie"
 |1=>"ring"
 |2=>"pair"
 |_=>"few"
section
variable{P:Program}{w:World}{K:PySem.W.Frag}{mg:Str->Option Value}{base:Heap}{cN cR cP cT a1 a2 a3 a4 a5 a6 a7 te:Addr}
abbrev sWd:Stmt:=top 59
abbrev nWd:List Str:=["_law_error","_law_words"]
theorem scWd:FnScope nWd ["_law_error"] (defScope sWd):=⟨rfl,rfl,rfl,by decide+kernel,rfl,by decide+kernel,by decide+kernel⟩
def spWd(K:PySem.W.Frag)(cN cR cP cT a1 a2 a3 a4 a5 a6 a7 te:Addr):Sp:=fun vs H Q _=>∃(e C:Addr)(od:Option Addr)(k:Nat),vs=[.ref e]/\H e=some (RX.XO C od e)/\(∀dx,od=some dx->∃u,H dx=some u)/\Kw K cN cR cP cT a1 a2 a3 a4 a5 a6 a7 te C k/\k<4/\
 ∀H' l,Same H H'->H' l=some (.lst [.str (wrd k)])->Q (.ref l) H'
theorem ok_wd{f:Addr}{fd:FuncData}(F:Fun K "_law_word" "_law_word" sWd f fd)(T:Bi mg)(G:Gw mg cN cR cP cT a1 a2 a3 a4 a5 a6 a7 te):FnOk P w K mg base CX0 1 f fd ["_law_error"] (spWd K cN cR cP cT a1 a2 a3 a4 a5 a6 a7 te):=by
 refine F.ok scWd (fun vs H Q E h=>?_) (fun cdv A outer s H vs Q E hr h=>?_)
 ·obtain⟨e,C,od,k,rfl,_⟩:=h
  rfl
 ·obtain⟨e,C,od,k,rfl,he,hod,W,hk,q⟩:=h
  refine⟨_,pss_cons (ps_set (i:=1) scWd.nd rfl (Or.inl rfl) (pe_lst pa_nil))
   (pss_cons (ps_if (pt_val (pe_callB RX.call_isinstX rfl T.isi bIsi (pa_c (pv 0) (pa_c (pe_glob (v:= .ref cN) rfl G.gN rfl) pa_nil)))) (pss_one (ps_expr (pe_bm PySem.F.plainAttrs_list PySem.F.slot_list_append PySem.F.type_list_append mt_append (pv 1) (pa_c pe_str pa_nil)))) pss_nil)
   (pss_cons (ps_if (pt_val (pe_callB RX.call_isinstX rfl T.isi bIsi (pa_c (pv 0) (pa_c (pe_glob (v:= .ref cR) rfl G.gR rfl) pa_nil)))) (pss_one (ps_expr (pe_bm PySem.F.plainAttrs_list PySem.F.slot_list_append PySem.F.type_list_append mt_append (pv 1) (pa_c pe_str pa_nil)))) pss_nil)
   (pss_cons (ps_if (pt_val (pe_callB RX.call_isinstX rfl T.isi bIsi (pa_c (pv 0) (pa_c (pe_glob (v:= .ref cP) rfl G.gP rfl) pa_nil)))) (pss_one (ps_expr (pe_bm PySem.F.plainAttrs_list PySem.F.slot_list_append PySem.F.type_list_append mt_append (pv 1) (pa_c pe_str pa_nil)))) pss_nil)
   (pss_cons (ps_if (pt_val (pe_callB RX.call_isinstX rfl T.isi bIsi (pa_c (pv 0) (pa_c (pe_glob (v:= .ref cT) rfl G.gT rfl) pa_nil)))) (pss_one (ps_expr (pe_bm PySem.F.plainAttrs_list PySem.F.slot_list_append PySem.F.type_list_append mt_append (pv 1) (pa_c pe_str pa_nil)))) pss_nil)
   (pss_cons (ps_if (PW.pt (pw_or (pt_val (pe_callB RX.call_isinstXT rfl T.isi bIsi (pa_c (pv 0) (pa_c (pe_tupS (pa_c (pe_glob (v:= .ref a1) rfl G.g1 rfl) (pa_c (pe_glob (v:= .ref a2) rfl G.g2 rfl) (pa_c (pe_glob (v:= .ref a3) rfl G.g3 rfl) (pa_c (pe_glob (v:= .ref a4) rfl G.g4 rfl) pa_nil))))) pa_nil)))) (pw_or1 (pt_val (pe_callB RX.call_isinstXT rfl T.isi bIsi (pa_c (pv 0) (pa_c (pe_tupS (pa_c (pe_glob (v:= .ref a5) rfl G.g5 rfl) (pa_c (pe_glob (v:= .ref a6) rfl G.g6 rfl) (pa_c (pe_glob (v:= .ref a7) rfl G.g7 rfl) pa_nil)))) pa_nil))))))) pss_never pss_nil)
   (pss_cons (ps_if (pt_not (pt_val (pe_callB RX.call_isinstX rfl T.isi bIsi (pa_c (pv 0) (pa_c (pe_bltn (v:= .ty "ValueError") rfl G.hv rfl rfl) pa_nil))))) pss_never pss_nil)
   (pss_one (ps_ret (pv 1))))))))),?_⟩
  refine⟨Nat.zero_le _,fun B hB=>?_⟩
  have neB:∀{b:Addr}{o:HO},H b=some o->b≠B:=fun{b o} e z=>by rw[z,hB]at e;cases e
  have up:∀(xs:List V){b:Addr}{o:HO},H b=some o->upd (upd H B (.lst [])) B (.lst xs) b=some o:=fun xs{b o} e=>by rw[upd_ne (neB e),upd_ne (neB e)];exact e
  have he0:upd H B (.lst []) e=some (RX.XO C od e):=by rw[upd_ne (neB he)];exact he
  have hd0:∀dx,od=some dx->∃u,upd H B (.lst []) dx=some u:=fun dx z=>let⟨u,hu⟩:=hod dx z;⟨u,by rw[upd_ne (neB hu)];exact hu⟩
  have he1:∀xs,upd (upd H B (.lst [])) B (.lst xs) e=some (RX.XO C od e):=fun xs=>up xs he
  have hd1:∀xs,∀dx,od=some dx->∃u,upd (upd H B (.lst [])) B (.lst xs) dx=some u:=fun xs dx z=>let⟨u,hu⟩:=hod dx z;⟨u,up xs hu⟩
  have hs1:∀xs,Same H (upd (upd H B (.lst [])) B (.lst xs)):=fun xs b o z=>up xs z
  have h1:=W.k0
  have h2:=W.k1
  have h3:=W.k2
  have h4:=W.k3
  match k,hk with
  |0,_=>
   refine⟨_,rfl,e,C,od,_,_,true,rfl,he0,hd0,W.gt,rfl,h1,_,rfl,?_⟩
   refine iteT ⟨_,rfl,.inl ⟨rfl,_,SqL.of upd_same⟩,B,[],_,rfl,rfl,upd_same,Nat.lt_of_lt_of_le (show 0<1000 by decide) (leMil (by decide)),?_⟩
   refine⟨_,rfl,e,C,od,_,_,false,rfl,(he1 [.str "tie"]),(hd1 [.str "tie"]),W.gt,rfl,h2,_,rfl,?_⟩
   refine iteF ?_
   refine⟨_,rfl,e,C,od,_,_,false,rfl,(he1 [.str "tie"]),(hd1 [.str "tie"]),W.gt,rfl,h3,_,rfl,?_⟩
   refine iteF ?_
   refine⟨_,rfl,e,C,od,_,_,false,rfl,(he1 [.str "tie"]),(hd1 [.str "tie"]),W.gt,rfl,h4,_,rfl,?_⟩
   refine iteF ?_
   refine⟨_,rfl,rfl,fun tp G1 s1 htp=>⟨e,C,od,tp,[a1,a2,a3,a4],false,rfl,s1 _ _ (he1 _),(fun dx z=>let⟨u,hu⟩:=hd1 [.str "tie"] dx z;⟨u,s1 _ _ hu⟩),W.gt,htp,W.k4,_,rfl,iteF ?_⟩⟩
   refine⟨_,rfl,rfl,fun tp2 G2 s2 htp2=>⟨e,C,od,tp2,[a5,a6,a7],false,rfl,s2 _ _ (s1 _ _ (he1 _)),(fun dx z=>let⟨u,hu⟩:=hd1 [.str "tie"] dx z;⟨u,s2 _ _ (s1 _ _ hu)⟩),W.gt,htp2,W.k5,_,rfl,iteF ?_⟩⟩
   refine⟨_,rfl,e,C,od,_,_,true,rfl,s2 _ _ (s1 _ _ (he1 _)),(fun dx z=>let⟨u,hu⟩:=hd1 [.str "tie"] dx z;⟨u,s2 _ _ (s1 _ _ hu)⟩),W.gt,rfl,W.kv,_,rfl,iteF ?_⟩
   exact⟨_,rfl,q G2 B (Same.trans (hs1 [.str "tie"]) (Same.trans s1 s2)) (s2 _ _ (s1 _ _ upd_same))⟩
  |1,_=>
   refine⟨_,rfl,e,C,od,_,_,false,rfl,he0,hd0,W.gt,rfl,h1,_,rfl,?_⟩
   refine iteF ?_
   refine⟨_,rfl,e,C,od,_,_,true,rfl,he0,hd0,W.gt,rfl,h2,_,rfl,?_⟩
   refine iteT ⟨_,rfl,.inl ⟨rfl,_,SqL.of upd_same⟩,B,[],_,rfl,rfl,upd_same,Nat.lt_of_lt_of_le (show 0<1000 by decide) (leMil (by decide)),?_⟩
   refine⟨_,rfl,e,C,od,_,_,false,rfl,(he1 [.str "ring"]),(hd1 [.str "ring"]),W.gt,rfl,h3,_,rfl,?_⟩
   refine iteF ?_
   refine⟨_,rfl,e,C,od,_,_,false,rfl,(he1 [.str "ring"]),(hd1 [.str "ring"]),W.gt,rfl,h4,_,rfl,?_⟩
   refine iteF ?_
   refine⟨_,rfl,rfl,fun tp G1 s1 htp=>⟨e,C,od,tp,[a1,a2,a3,a4],false,rfl,s1 _ _ (he1 _),(fun dx z=>let⟨u,hu⟩:=hd1 [.str "ring"] dx z;⟨u,s1 _ _ hu⟩),W.gt,htp,W.k4,_,rfl,iteF ?_⟩⟩
   refine⟨_,rfl,rfl,fun tp2 G2 s2 htp2=>⟨e,C,od,tp2,[a5,a6,a7],false,rfl,s2 _ _ (s1 _ _ (he1 _)),(fun dx z=>let⟨u,hu⟩:=hd1 [.str "ring"] dx z;⟨u,s2 _ _ (s1 _ _ hu)⟩),W.gt,htp2,W.k5,_,rfl,iteF ?_⟩⟩
   refine⟨_,rfl,e,C,od,_,_,true,rfl,s2 _ _ (s1 _ _ (he1 _)),(fun dx z=>let⟨u,hu⟩:=hd1 [.str "ring"] dx z;⟨u,s2 _ _ (s1 _ _ hu)⟩),W.gt,rfl,W.kv,_,rfl,iteF ?_⟩
   exact⟨_,rfl,q G2 B (Same.trans (hs1 [.str "ring"]) (Same.trans s1 s2)) (s2 _ _ (s1 _ _ upd_same))⟩
  |2,_=>
   refine⟨_,rfl,e,C,od,_,_,false,rfl,he0,hd0,W.gt,rfl,h1,_,rfl,?_⟩
   refine iteF ?_
   refine⟨_,rfl,e,C,od,_,_,false,rfl,he0,hd0,W.gt,rfl,h2,_,rfl,?_⟩
   refine iteF ?_
   refine⟨_,rfl,e,C,od,_,_,true,rfl,he0,hd0,W.gt,rfl,h3,_,rfl,?_⟩
   refine iteT ⟨_,rfl,.inl ⟨rfl,_,SqL.of upd_same⟩,B,[],_,rfl,rfl,upd_same,Nat.lt_of_lt_of_le (show 0<1000 by decide) (leMil (by decide)),?_⟩
   refine⟨_,rfl,e,C,od,_,_,false,rfl,(he1 [.str "pair"]),(hd1 [.str "pair"]),W.gt,rfl,h4,_,rfl,?_⟩
   refine iteF ?_
   refine⟨_,rfl,rfl,fun tp G1 s1 htp=>⟨e,C,od,tp,[a1,a2,a3,a4],false,rfl,s1 _ _ (he1 _),(fun dx z=>let⟨u,hu⟩:=hd1 [.str "pair"] dx z;⟨u,s1 _ _ hu⟩),W.gt,htp,W.k4,_,rfl,iteF ?_⟩⟩
   refine⟨_,rfl,rfl,fun tp2 G2 s2 htp2=>⟨e,C,od,tp2,[a5,a6,a7],false,rfl,s2 _ _ (s1 _ _ (he1 _)),(fun dx z=>let⟨u,hu⟩:=hd1 [.str "pair"] dx z;⟨u,s2 _ _ (s1 _ _ hu)⟩),W.gt,htp2,W.k5,_,rfl,iteF ?_⟩⟩
   refine⟨_,rfl,e,C,od,_,_,true,rfl,s2 _ _ (s1 _ _ (he1 _)),(fun dx z=>let⟨u,hu⟩:=hd1 [.str "pair"] dx z;⟨u,s2 _ _ (s1 _ _ hu)⟩),W.gt,rfl,W.kv,_,rfl,iteF ?_⟩
   exact⟨_,rfl,q G2 B (Same.trans (hs1 [.str "pair"]) (Same.trans s1 s2)) (s2 _ _ (s1 _ _ upd_same))⟩
  |3,_=>
   refine⟨_,rfl,e,C,od,_,_,false,rfl,he0,hd0,W.gt,rfl,h1,_,rfl,?_⟩
   refine iteF ?_
   refine⟨_,rfl,e,C,od,_,_,false,rfl,he0,hd0,W.gt,rfl,h2,_,rfl,?_⟩
   refine iteF ?_
   refine⟨_,rfl,e,C,od,_,_,false,rfl,he0,hd0,W.gt,rfl,h3,_,rfl,?_⟩
   refine iteF ?_
   refine⟨_,rfl,e,C,od,_,_,true,rfl,he0,hd0,W.gt,rfl,h4,_,rfl,?_⟩
   refine iteT ⟨_,rfl,.inl ⟨rfl,_,SqL.of upd_same⟩,B,[],_,rfl,rfl,upd_same,Nat.lt_of_lt_of_le (show 0<1000 by decide) (leMil (by decide)),?_⟩
   refine⟨_,rfl,rfl,fun tp G1 s1 htp=>⟨e,C,od,tp,[a1,a2,a3,a4],false,rfl,s1 _ _ (he1 _),(fun dx z=>let⟨u,hu⟩:=hd1 [.str "few"] dx z;⟨u,s1 _ _ hu⟩),W.gt,htp,W.k4,_,rfl,iteF ?_⟩⟩
   refine⟨_,rfl,rfl,fun tp2 G2 s2 htp2=>⟨e,C,od,tp2,[a5,a6,a7],false,rfl,s2 _ _ (s1 _ _ (he1 _)),(fun dx z=>let⟨u,hu⟩:=hd1 [.str "few"] dx z;⟨u,s2 _ _ (s1 _ _ hu)⟩),W.gt,htp2,W.k5,_,rfl,iteF ?_⟩⟩
   refine⟨_,rfl,e,C,od,_,_,true,rfl,s2 _ _ (s1 _ _ (he1 _)),(fun dx z=>let⟨u,hu⟩:=hd1 [.str "few"] dx z;⟨u,s2 _ _ (s1 _ _ hu)⟩),W.gt,rfl,W.kv,_,rfl,iteF ?_⟩
   exact⟨_,rfl,q G2 B (Same.trans (hs1 [.str "few"]) (Same.trans s1 s2)) (s2 _ _ (s1 _ _ upd_same))⟩
end
end My
set_option maxHeartbeats 1000000
namespace L2
open PySem PySem.Spec PyProof.Rows PySem.SeqAt
section
variable{X:Cx}
def oneW(o:Option Str):List V:=match o with
 |none=>[]
 |some x=>[.str x]
def rEqW(K:PySem.W.Frag):R2:=fun x y H Q=>∃(p q:Addr)(o:Option Str)(b:Str),x= .ref p/\y= .ref q/\SqL K H p (oneW o)/\SqL K H q [.str b]/\Q (.bl (decide (o=some b))) H
theorem op_eqW{k:Nat}(hr:Room k X.A):OpR X (compareOp .Eq) (rEqW X.K):=by
 intro pins s σ H x y v u Q I rx ry h
 obtain⟨p,q,o,b,rfl,rfl,ha,hb,hq⟩:=h
 cases(show v=Value.ref p from rx)
 cases(show u=Value.ref q from ry)
 have hun:=hr.un
 show wpAny _ _ (richCompare .Eq (.ref p) (.ref q)) _ _ s
 obtain⟨vs,rvs,pa,_⟩:=I.list ha
 obtain⟨ws,rws,pb,_⟩:=I.list hb
 have l1:=rvs.length
 have l2:=rws.length
 cases o with
 |none=>
  have l3:vs.length=0:=l1.symm
  have l4:ws.length=1:=l2.symm
  refine RcAt.lists_lengths (A:=X.A) (s:=s) pa.isList pb.isList (by
   rw[List.size_toArray,List.size_toArray,l3,l4]
   rfl) (by omega) _ _ _ _ ?_
  exact⟨.bl _,H,I,rfl,hq⟩
 |some a=>
  have one:∀{x:Str}{us:List Value},Vals [V.str x] us->∃t,us=[Value.str x t]:=fun{x us} r=>by
   cases r with
   |cons rv rn=>
    cases rn
    obtain⟨t,rfl⟩:=rv
    exact⟨t,rfl⟩
  obtain⟨t,rfl⟩:=one rvs
  obtain⟨t',rfl⟩:=one rws
  refine RcAt.lists (A:=X.A) (s:=s) (e:=fun _=>a==b) pa.isList pb.isList rfl (by omega) (fun j h1 h2=>?_) _ _ _ _ ?_
  ·have:j=0:=by simpa using h1
   subst this
   exact EqAt.str_str a t b t'
  ·have e:((List.range ([Value.str a t]:List Value).toArray.size).all fun _=>a==b)=decide (some a=some b):=by
    rw[List.size_toArray]
    by_cases h:a=b
    ·subst h;simp
    ·simp[h]
   have hq':Q (.bl (decide (some a=some b))) H:=hq
   rw[<-e]at hq'
   exact⟨.bl _,H,I,rfl,hq'⟩
end
end L2
namespace RX
open PySem PySem.Spec PyProof.Rows L2 PySem.W
def tMethX(C:Addr)(m:Str)(sp:Sp)(Ex:L2.St->XK)(ta:TE)(t:TA):TE:=fun σ H Q=>ta σ H fun x H1=>∃a dx fs,x= .ref a/\H1 a=some (.ins C dx fs)/\fs.lookup m=none/\t σ H1 fun vs H2=>sp (x::vs) H2 Q (Ex σ)
section
variable{X:Cx}{k:Nat}{f C:Addr}{fd:FuncData}{ps:List Str}{sp:Sp}{Ex:L2.St->XK}{m:Str}{pos apos:Pos}{e o:Expr}{es:List Expr}{ta:TE}{t:TA}
theorem pe_methX{pl:Sem Bool}(he:PE X o ta)(c:L2.Cls X.K C)(hm:L2.Meth X.K C m f)(F:FnOk X.prog X.w X.K X.mg X.base (CXe X.prog X.w) k f fd ps sp)(hr:Room k X.A)(hb:L2.Binds X.K fd ps [])(hx:Takes X Ex)(ha:PA X (e::es) t)
  (hst:starEach (e::es) X.env=(false,eval e X.env)::starEach es X.env:=by rfl)(hpl:(backTo pos (starEach es X.env)).any (·.1)=false:=by rfl)
  (ht:eval (.Call (.Attribute o m apos) (e::es) [] pos) X.env=(do
   let ov<-eval o X.env
   standAt apos.atName
   let(f,first)<-holding [ov] (getMethod ov m pl)
   callWith pos f first (backTo pos (starEach (e::es) X.env)) (backToKw pos (keywordEach [] X.env))):=by rfl):
  PE X (.Call (.Attribute o m apos) (e::es) [] pos) (tMethX C m sp Ex ta t):=by
 intro pins s σ H Q I h
 refine PySem.W.methodCall_KW (pl:=pl) (thn (he pins s σ H _ I h) fun u s1⟨x,H1,I1,rx,a,dx,fs,ex,ea,l,q⟩=>?_) ht
 subst ex
 obtain rfl:u=Value.ref a:=rx
 refine getmeth_ok I1 ea c hm l ?_
 refine PySem.W.callWith_K (first:=[.ref a]) (h₀:=X.base) I.ok.mod.kin hm.kp (thn (ha pos pins s1 σ H1 _ I1 q) fun us s2⟨vs,H2,I2,r,q2⟩=>⟨I2.kIn,?_⟩) hst hpl
 have r2:Vals (.ref a::vs) (.ref a::us):= .cons rfl r
 have hl:(Value.ref a::us).length=ps.length:=by rw[<-r2.length];exact F.len _ _ _ _ q2
 have hb':=hb s2 (.ref a::us) I2.kIn (by rw[List.append_nil];exact hl)
 rw[List.append_nil]at hb'
 refine wpAny_call (codeAny_mono (F.run X.A X.stack s2 H2 ⟨.ref a::us,[]⟩ (.ref a::us) (.ref a::vs) Q (Ex σ) hr I2.env0 hb' r2 q2) fun r s' hq=>?_)
 cases r with
 |error e=>exact hx pins σ H2 s2 e s' I2 hq
 |ok fl=>
  cases fl with
  |ret u=>exact I2.after hq
  |next=>exact False.elim hq
  |brk=>exact False.elim hq
  |cont=>exact False.elim hq
end
end RX
namespace My
open PySem L2
def RfAt(H:Hp)(l:Addr)(ws:List V)(v:V):Prop:=∃wl,H l=some (.lst [.ref wl,v])/\H wl=some (.lst ws)
theorem RfAt.same{H H':Hp}{l:Addr}{ws:List V}{v:V}(h:RfAt H l ws v)(s:Same H H'):RfAt H' l ws v:=let⟨a,b,c⟩:=h;⟨a,s _ _ b,s _ _ c⟩
theorem ne_rt:¬(some (PySem.Str.ofString "tie")=some (PySem.Str.ofString "ring")):=by decide+kernel
theorem ne_pt:¬(some (PySem.Str.ofString "tie")=some (PySem.Str.ofString "pair")):=by decide+kernel
theorem ne_ft:¬(some (PySem.Str.ofString "tie")=some (PySem.Str.ofString "few")):=by decide+kernel
theorem ne_rp:¬(some (PySem.Str.ofString "pair")=some (PySem.Str.ofString "ring")):=by decide+kernel
theorem ne_rf:¬(some (PySem.Str.ofString "few")=some (PySem.Str.ofString "ring")):=by decide+kernel
theorem ne_pf:¬(some (PySem.Str.ofString "few")=some (PySem.Str.ofString "pair")):=by decide+kernel
section
variable{P:Program}{w:World}{K:PySem.W.Frag}{mg:Str->Option Value}{base:Heap}{C cN cR cP cT a1 a2 a3 a4 a5 a6 a7 te:Addr}
abbrev sRf:Stmt:=top 60
abbrev nRf:List Str:=["_law_way","_law_net_here","_law_tints","_law_tie_here","_law_many","_law_kept","_law_told_steps","_law_error","_law_words"]
abbrev pRf:List Str:=["_law_way","_law_net_here","_law_tints","_law_tie_here","_law_many"]
theorem scRf:FnScope nRf pRf (defScope sRf):=⟨rfl,rfl,rfl,by decide+kernel,rfl,by decide+kernel,by decide+kernel⟩
theorem rf_tail{f:Addr}{cdv:Value}{A:Around}{outer:List Env}{s:Shared}{H:Hp}{E:XK}{Q:VK}{k0:Nat}(hr:Room (k0+1) (A.deeper (PyProof.Rows.envOfC "_law_refused" (defScope sRf) s.heap.objs.size f cdv)))(FW:FnE P w K mg base "_law_word" ["_law_error"] 1 (spWd K cN cR cP cT a1 a2 a3 a4 a5 a6 a7 te))(nR:PySem.W.findIn K (.ref cR) "ring"=some none)(nP:PySem.W.findIn K (.ref cP) "pair"=some none)(nT:PySem.W.findIn K (.ref cT) "need"=some none):
  ∃t,PSs (cxOf CX0 P w K mg base nRf "_law_refused" (defScope sRf) f cdv A outer s H E).nox ((defBody sRf).drop 3) t/\
   (∀(G:Hp)(v:V)(u0 u1 u2 u3 u4 u7 u8:Option V),(∀G' l,Same G G'->RfAt G' l [] v->Q (.ref l) G')->t {nx:=fun _ H'=>Q .non H',rt:=Q} [u0,u1,u2,u3,u4,some .non,some v,u7,u8] G)/\
   (∀(G:Hp)(u0 u1 u2 u3 u4 u6 u7 u8:Option V)(e:Addr),G e=some (RX.XO cN none e)->Kw K cN cR cP cT a1 a2 a3 a4 a5 a6 a7 te cN 0->(∀G' l,Same G G'->RfAt G' l [.str "tie"] .non->Q (.ref l) G')->t {nx:=fun _ H'=>Q .non H',rt:=Q} [u0,u1,u2,u3,u4,some (.ref e),u6,u7,u8] G)/\
   (∀(G:Hp)(u0 u1 u2 u3 u4 u6 u7 u8:Option V)(e dx:Addr)(y:V),G e=some (RX.XO cR (some dx) e)->G dx=some (.xd [("ring",y)])->(∀n,y≠.ty n)->Kw K cN cR cP cT a1 a2 a3 a4 a5 a6 a7 te cR 1->(∀G' l,Same G G'->RfAt G' l [.str "ring"] y->Q (.ref l) G')->t {nx:=fun _ H'=>Q .non H',rt:=Q} [u0,u1,u2,u3,u4,some (.ref e),u6,u7,u8] G)/\
   (∀(G:Hp)(u0 u1 u2 u3 u4 u6 u7 u8:Option V)(e dx:Addr)(y:V),G e=some (RX.XO cP (some dx) e)->G dx=some (.xd [("pair",y)])->(∀n,y≠.ty n)->Kw K cN cR cP cT a1 a2 a3 a4 a5 a6 a7 te cP 2->(∀G' l,Same G G'->RfAt G' l [.str "pair"] y->Q (.ref l) G')->t {nx:=fun _ H'=>Q .non H',rt:=Q} [u0,u1,u2,u3,u4,some (.ref e),u6,u7,u8] G)/\
   (∀(G:Hp)(u0 u1 u2 u3 u4 u6 u7 u8:Option V)(e dx:Addr)(y:V),G e=some (RX.XO cT (some dx) e)->G dx=some (.xd [("need",y)])->(∀n,y≠.ty n)->Kw K cN cR cP cT a1 a2 a3 a4 a5 a6 a7 te cT 3->(∀G' l,Same G G'->RfAt G' l [.str "few"] y->Q (.ref l) G')->t {nx:=fun _ H'=>Q .non H',rt:=Q} [u0,u1,u2,u3,u4,some (.ref e),u6,u7,u8] G):=by
 have hr1:Room 1 _:=hr.mono (by omega)
 refine⟨_,pss_cons (ps_if (pt_cmpR op_isN (pv 5) pe_non (nomark _)) (pss_one (ps_ret (pe_lstS (pa_c (pe_lstS pa_nil) (pa_c (pv 6) pa_nil))))) pss_nil)
  (pss_cons (ps_set (i:=8) scRf.nd rfl (Or.inl rfl) (pe_fc FW hr1 (pa_c (pv 5) pa_nil)))
  (pss_cons (ps_if (pt_cmpR (op_eqW hr) (pv 8) (pe_lstS (pa_c pe_str pa_nil)) rfl) (pss_one (ps_ret (pe_lstS (pa_c (pv 8) (pa_c (RX.pe_fldX (pv 5) rfl) pa_nil))))) pss_nil)
  (pss_cons (ps_if (pt_cmpR (op_eqW hr) (pv 8) (pe_lstS (pa_c pe_str pa_nil)) rfl) (pss_one (ps_ret (pe_lstS (pa_c (pv 8) (pa_c (RX.pe_fldX (pv 5) rfl) pa_nil))))) pss_nil)
  (pss_cons (ps_if (pt_cmpR (op_eqW hr) (pv 8) (pe_lstS (pa_c pe_str pa_nil)) rfl) (pss_one (ps_ret (pe_lstS (pa_c (pv 8) (pa_c (RX.pe_fldX (pv 5) rfl) pa_nil))))) pss_nil)
  (pss_one (ps_ret (pe_lstS (pa_c (pv 8) (pa_c pe_non pa_nil))))))))),?_,?_,?_,?_,?_⟩
 ·intro G v u0 u1 u2 u3 u4 u7 u8 hq
  refine⟨_,rfl,rfl,_,rfl,iteT ⟨rfl,fun wl G1 s1 h1=>⟨_,rfl,⟨rfl,fun l G2 s2 h2=>hq G2 l (Same.trans s1 s2) ⟨wl,h2,s2 _ _ h1⟩⟩⟩⟩⟩
 ·intro G u0 u1 u2 u3 u4 u6 u7 u8 e he W hq
  refine⟨_,rfl,rfl,_,rfl,iteF ?_⟩
  refine⟨_,rfl,e,cN,none,0,rfl,he,(fun dx z=>by cases z),W,by decide,fun G1 wl s1 hw=>?_⟩
  have a1:G1 wl=some (.lst (oneW (some "tie"))):=hw
  refine⟨_,rfl,rfl,fun x1 G2 t2 hx1=>⟨wl,x1,some "tie","ring",rfl,rfl,SqL.of (t2 _ _ a1),SqL.of hx1,_,rfl,?_⟩⟩
  rw[decide_eq_false ne_rt]
  refine iteF ?_
  have a2:=t2 _ _ a1
  refine⟨_,rfl,rfl,fun x2 G3 t3 hx2=>⟨wl,x2,some "tie","pair",rfl,rfl,SqL.of (t3 _ _ a2),SqL.of hx2,_,rfl,?_⟩⟩
  rw[decide_eq_false ne_pt]
  refine iteF ?_
  have a3:=t3 _ _ a2
  refine⟨_,rfl,rfl,fun x3 G4 t4 hx3=>⟨wl,x3,some "tie","few",rfl,rfl,SqL.of (t4 _ _ a3),SqL.of hx3,_,rfl,?_⟩⟩
  rw[decide_eq_false ne_ft]
  refine iteF ?_
  have a4:=t4 _ _ a3
  exact⟨_,rfl,rfl,fun l G9 s9 h9=>hq G9 l (Same.trans s1 (Same.trans t2 (Same.trans t3 (Same.trans t4 s9)))) ⟨wl,h9,s9 _ _ a4⟩⟩
 ·intro G u0 u1 u2 u3 u4 u6 u7 u8 e dx y he hdx hty W hq
  refine⟨_,rfl,rfl,_,rfl,iteF ?_⟩
  refine⟨_,rfl,e,cR,some dx,1,rfl,he,(fun d' z=>by cases z;exact⟨_,hdx⟩),W,by decide,fun G1 wl s1 hw=>?_⟩
  have a1:G1 wl=some (.lst (oneW (some "ring"))):=hw
  have e1:=s1 _ _ he
  have d1:=s1 _ _ hdx
  refine⟨_,rfl,rfl,fun x1 G2 t2 hx1=>⟨wl,x1,some "ring","ring",rfl,rfl,SqL.of (t2 _ _ a1),SqL.of hx1,_,rfl,?_⟩⟩
  have a2:=t2 _ _ a1
  have e2:=t2 _ _ e1
  have d2:=t2 _ _ d1
  rw[decide_eq_true rfl]
  exact iteT ⟨_,rfl,_,rfl,e,cR,dx,_,y,rfl,e2,d2,W.gt,nR,rfl,hty,rfl,fun l G9 s9 h9=>hq G9 l (Same.trans s1 (Same.trans t2 s9)) ⟨wl,h9,s9 _ _ a2⟩⟩
 ·intro G u0 u1 u2 u3 u4 u6 u7 u8 e dx y he hdx hty W hq
  refine⟨_,rfl,rfl,_,rfl,iteF ?_⟩
  refine⟨_,rfl,e,cP,some dx,2,rfl,he,(fun d' z=>by cases z;exact⟨_,hdx⟩),W,by decide,fun G1 wl s1 hw=>?_⟩
  have a1:G1 wl=some (.lst (oneW (some "pair"))):=hw
  have e1:=s1 _ _ he
  have d1:=s1 _ _ hdx
  refine⟨_,rfl,rfl,fun x1 G2 t2 hx1=>⟨wl,x1,some "pair","ring",rfl,rfl,SqL.of (t2 _ _ a1),SqL.of hx1,_,rfl,?_⟩⟩
  have a2:=t2 _ _ a1
  have e2:=t2 _ _ e1
  have d2:=t2 _ _ d1
  rw[decide_eq_false ne_rp]
  refine iteF ?_
  refine⟨_,rfl,rfl,fun x2 G3 t3 hx2=>⟨wl,x2,some "pair","pair",rfl,rfl,SqL.of (t3 _ _ a2),SqL.of hx2,_,rfl,?_⟩⟩
  have a3:=t3 _ _ a2
  have e3:=t3 _ _ e2
  have d3:=t3 _ _ d2
  rw[decide_eq_true rfl]
  exact iteT ⟨_,rfl,_,rfl,e,cP,dx,_,y,rfl,e3,d3,W.gt,nP,rfl,hty,rfl,fun l G9 s9 h9=>hq G9 l (Same.trans s1 (Same.trans t2 (Same.trans t3 s9))) ⟨wl,h9,s9 _ _ a3⟩⟩
 ·intro G u0 u1 u2 u3 u4 u6 u7 u8 e dx y he hdx hty W hq
  refine⟨_,rfl,rfl,_,rfl,iteF ?_⟩
  refine⟨_,rfl,e,cT,some dx,3,rfl,he,(fun d' z=>by cases z;exact⟨_,hdx⟩),W,by decide,fun G1 wl s1 hw=>?_⟩
  have a1:G1 wl=some (.lst (oneW (some "few"))):=hw
  have e1:=s1 _ _ he
  have d1:=s1 _ _ hdx
  refine⟨_,rfl,rfl,fun x1 G2 t2 hx1=>⟨wl,x1,some "few","ring",rfl,rfl,SqL.of (t2 _ _ a1),SqL.of hx1,_,rfl,?_⟩⟩
  have a2:=t2 _ _ a1
  have e2:=t2 _ _ e1
  have d2:=t2 _ _ d1
  rw[decide_eq_false ne_rf]
  refine iteF ?_
  refine⟨_,rfl,rfl,fun x2 G3 t3 hx2=>⟨wl,x2,some "few","pair",rfl,rfl,SqL.of (t3 _ _ a2),SqL.of hx2,_,rfl,?_⟩⟩
  have a3:=t3 _ _ a2
  have e3:=t3 _ _ e2
  have d3:=t3 _ _ d2
  rw[decide_eq_false ne_pf]
  refine iteF ?_
  refine⟨_,rfl,rfl,fun x3 G4 t4 hx3=>⟨wl,x3,some "few","few",rfl,rfl,SqL.of (t4 _ _ a3),SqL.of hx3,_,rfl,?_⟩⟩
  have a4:=t4 _ _ a3
  have e4:=t4 _ _ e3
  have d4:=t4 _ _ d3
  rw[decide_eq_true rfl]
  exact iteT ⟨_,rfl,_,rfl,e,cT,dx,_,y,rfl,e4,d4,W.gt,nT,rfl,hty,rfl,fun l G9 s9 h9=>hq G9 l (Same.trans s1 (Same.trans t2 (Same.trans t3 (Same.trans t4 s9)))) ⟨wl,h9,s9 _ _ a4⟩⟩
abbrev sAq:Stmt:=top 61
abbrev nAq:List Str:=["_law_way","_law_net_here","_law_kept","_law_error","_law_words"]
abbrev pAq:List Str:=["_law_way","_law_net_here"]
theorem scAq:FnScope nAq pAq (defScope sAq):=⟨rfl,rfl,rfl,by decide+kernel,rfl,by decide+kernel,by decide+kernel⟩
theorem aq_tail{f:Addr}{cdv:Value}{A:Around}{outer:List Env}{s:Shared}{H:Hp}{E:XK}{Q:VK}{k0:Nat}(hr:Room (k0+1) (A.deeper (PyProof.Rows.envOfC "_law_asked" (defScope sAq) s.heap.objs.size f cdv)))(FW:FnE P w K mg base "_law_word" ["_law_error"] 1 (spWd K cN cR cP cT a1 a2 a3 a4 a5 a6 a7 te))(nR:PySem.W.findIn K (.ref cR) "ring"=some none)(nP:PySem.W.findIn K (.ref cP) "pair"=some none):
  ∃t,PSs (cxOf CX0 P w K mg base nAq "_law_asked" (defScope sAq) f cdv A outer s H E).nox ((defBody sAq).drop 2) t/\
   (∀(G:Hp)(u0 u1 u3 u4:Option V),(∀G' l,Same G G'->RfAt G' l [] .non->Q (.ref l) G')->t {nx:=fun _ H'=>Q .non H',rt:=Q} [u0,u1,some .non,u3,u4] G)/\
   (∀(G:Hp)(u0 u1 u3 u4:Option V)(e:Addr),G e=some (RX.XO cN none e)->Kw K cN cR cP cT a1 a2 a3 a4 a5 a6 a7 te cN 0->(∀G' l,Same G G'->RfAt G' l [.str "tie"] .non->Q (.ref l) G')->t {nx:=fun _ H'=>Q .non H',rt:=Q} [u0,u1,some (.ref e),u3,u4] G)/\
   (∀(G:Hp)(u0 u1 u3 u4:Option V)(e dx:Addr)(y:V),G e=some (RX.XO cR (some dx) e)->G dx=some (.xd [("ring",y)])->(∀n,y≠.ty n)->Kw K cN cR cP cT a1 a2 a3 a4 a5 a6 a7 te cR 1->(∀G' l,Same G G'->RfAt G' l [.str "ring"] y->Q (.ref l) G')->t {nx:=fun _ H'=>Q .non H',rt:=Q} [u0,u1,some (.ref e),u3,u4] G)/\
   (∀(G:Hp)(u0 u1 u3 u4:Option V)(e dx:Addr)(y:V),G e=some (RX.XO cP (some dx) e)->G dx=some (.xd [("pair",y)])->(∀n,y≠.ty n)->Kw K cN cR cP cT a1 a2 a3 a4 a5 a6 a7 te cP 2->(∀G' l,Same G G'->RfAt G' l [.str "pair"] y->Q (.ref l) G')->t {nx:=fun _ H'=>Q .non H',rt:=Q} [u0,u1,some (.ref e),u3,u4] G):=by
 have hr1:Room 1 _:=hr.mono (by omega)
 refine⟨_,pss_cons (ps_if (pt_cmpR op_isN (pv 2) pe_non (nomark _)) (pss_one (ps_ret (pe_lstS (pa_c (pe_lstS pa_nil) (pa_c pe_non pa_nil))))) pss_nil)
  (pss_cons (ps_set (i:=4) scAq.nd rfl (Or.inl rfl) (pe_fc FW hr1 (pa_c (pv 2) pa_nil)))
  (pss_cons (ps_if (pt_cmpR (op_eqW hr) (pv 4) (pe_lstS (pa_c pe_str pa_nil)) rfl) (pss_one (ps_ret (pe_lstS (pa_c (pv 4) (pa_c (RX.pe_fldX (pv 2) rfl) pa_nil))))) pss_nil)
  (pss_cons (ps_if (pt_cmpR (op_eqW hr) (pv 4) (pe_lstS (pa_c pe_str pa_nil)) rfl) (pss_one (ps_ret (pe_lstS (pa_c (pv 4) (pa_c (RX.pe_fldX (pv 2) rfl) pa_nil))))) pss_nil)
  (pss_one (ps_ret (pe_lstS (pa_c (pv 4) (pa_c pe_non pa_nil)))))))),?_,?_,?_,?_⟩
 ·intro G u0 u1 u3 u4 hq
  refine⟨_,rfl,rfl,_,rfl,iteT ⟨rfl,fun wl G1 s1 h1=>⟨rfl,fun l G2 s2 h2=>hq G2 l (Same.trans s1 s2) ⟨wl,h2,s2 _ _ h1⟩⟩⟩⟩
 ·intro G u0 u1 u3 u4 e he W hq
  refine⟨_,rfl,rfl,_,rfl,iteF ?_⟩
  refine⟨_,rfl,e,cN,none,0,rfl,he,(fun dx z=>by cases z),W,by decide,fun G1 wl s1 hw=>?_⟩
  have a1:G1 wl=some (.lst (oneW (some "tie"))):=hw
  refine⟨_,rfl,rfl,fun x1 G2 t2 hx1=>⟨wl,x1,some "tie","ring",rfl,rfl,SqL.of (t2 _ _ a1),SqL.of hx1,_,rfl,?_⟩⟩
  rw[decide_eq_false ne_rt]
  refine iteF ?_
  have a2:=t2 _ _ a1
  refine⟨_,rfl,rfl,fun x2 G3 t3 hx2=>⟨wl,x2,some "tie","pair",rfl,rfl,SqL.of (t3 _ _ a2),SqL.of hx2,_,rfl,?_⟩⟩
  rw[decide_eq_false ne_pt]
  refine iteF ?_
  have a3:=t3 _ _ a2
  exact⟨_,rfl,rfl,fun l G9 s9 h9=>hq G9 l (Same.trans s1 (Same.trans t2 (Same.trans t3 s9))) ⟨wl,h9,s9 _ _ a3⟩⟩
 ·intro G u0 u1 u3 u4 e dx y he hdx hty W hq
  refine⟨_,rfl,rfl,_,rfl,iteF ?_⟩
  refine⟨_,rfl,e,cR,some dx,1,rfl,he,(fun d' z=>by cases z;exact⟨_,hdx⟩),W,by decide,fun G1 wl s1 hw=>?_⟩
  have a1:G1 wl=some (.lst (oneW (some "ring"))):=hw
  have e1:=s1 _ _ he
  have d1:=s1 _ _ hdx
  refine⟨_,rfl,rfl,fun x1 G2 t2 hx1=>⟨wl,x1,some "ring","ring",rfl,rfl,SqL.of (t2 _ _ a1),SqL.of hx1,_,rfl,?_⟩⟩
  have a2:=t2 _ _ a1
  have e2:=t2 _ _ e1
  have d2:=t2 _ _ d1
  rw[decide_eq_true rfl]
  exact iteT ⟨_,rfl,_,rfl,e,cR,dx,_,y,rfl,e2,d2,W.gt,nR,rfl,hty,rfl,fun l G9 s9 h9=>hq G9 l (Same.trans s1 (Same.trans t2 s9)) ⟨wl,h9,s9 _ _ a2⟩⟩
 ·intro G u0 u1 u3 u4 e dx y he hdx hty W hq
  refine⟨_,rfl,rfl,_,rfl,iteF ?_⟩
  refine⟨_,rfl,e,cP,some dx,2,rfl,he,(fun d' z=>by cases z;exact⟨_,hdx⟩),W,by decide,fun G1 wl s1 hw=>?_⟩
  have a1:G1 wl=some (.lst (oneW (some "pair"))):=hw
  have e1:=s1 _ _ he
  have d1:=s1 _ _ hdx
  refine⟨_,rfl,rfl,fun x1 G2 t2 hx1=>⟨wl,x1,some "pair","ring",rfl,rfl,SqL.of (t2 _ _ a1),SqL.of hx1,_,rfl,?_⟩⟩
  have a2:=t2 _ _ a1
  have e2:=t2 _ _ e1
  have d2:=t2 _ _ d1
  rw[decide_eq_false ne_rp]
  refine iteF ?_
  refine⟨_,rfl,rfl,fun x2 G3 t3 hx2=>⟨wl,x2,some "pair","pair",rfl,rfl,SqL.of (t3 _ _ a2),SqL.of hx2,_,rfl,?_⟩⟩
  have a3:=t3 _ _ a2
  have e3:=t3 _ _ e2
  have d3:=t3 _ _ d2
  rw[decide_eq_true rfl]
  exact iteT ⟨_,rfl,_,rfl,e,cP,dx,_,y,rfl,e3,d3,W.gt,nP,rfl,hty,rfl,fun l G9 s9 h9=>hq G9 l (Same.trans s1 (Same.trans t2 (Same.trans t3 s9))) ⟨wl,h9,s9 _ _ a3⟩⟩
end
def RfP(at':Nat)(m:Nat)(H:Hp)(es:List (Nat×Nat))(n:Nat)(Q:VK):Prop:=
 (at'=1->¬Two es->∀H' l v rg k,Same H H'->RingAt H' es n v rg k->RfAt H' l [.str "ring"] v->Q (.ref l) H')/\
 (at'=2->Twin es->∀H' l v,Same H H'->PairAt H' es v->RfAt H' l [.str "pair"] v->Q (.ref l) H')/\
 ((at'=1->Two es)->(at'=2->¬Twin es)->∀M,IsMax (dl es n) M->
  ((m:Int)<nd at' M->∀H' l,Same H H'->RfAt H' l [.str "few"] (.int (nd at' M))->Q (.ref l) H')/\
  (nd at' M<=(m:Int)->∀H' l sl xs,Same H H'->RfAt H' l [] (.ref sl)->H' sl=some (.lst xs)->xs.length=1->Q (.ref l) H'))
def AqP(at':Nat)(H:Hp)(es:List (Nat×Nat))(n:Nat)(Q:VK):Prop:=
 (at'=1->¬Two es->∀H' l v rg k,Same H H'->RingAt H' es n v rg k->RfAt H' l [.str "ring"] v->Q (.ref l) H')/\
 (at'=2->Twin es->∀H' l v,Same H H'->PairAt H' es v->RfAt H' l [.str "pair"] v->Q (.ref l) H')/\
 ((at'=1->Two es)->(at'=2->¬Twin es)->∀H' l,Same H H'->RfAt H' l [] .non->Q (.ref l) H')
section
variable{P:Program}{w:World}{K:PySem.W.Frag}{mg:Str->Option Value}{base:Heap}{C cN cR cP cT a1 a2 a3 a4 a5 a6 a7 te:Addr}
def spRf(at':Nat)(C:Addr):Sp:=fun vs H Q _=>∃(s p r:Addr)(n:Nat)(q:Addr)(ts:List V)(es:List (Nat×Nat))(tl:List (Option Nat))(x:V)(m:Nat)(dx:Addr),vs=[.ref s,.ref p,.ref r,x,.int (m:Int)]/\H s=some (.ins C dx [])/\NetZ H p n q ts es/\H r=some (.tup (tv tl))/\tl.length=es.length/\m<=1000/\Kn H x/\
 (NoT es tl x->∀H' l,Same H H'->RfAt H' l [.str "tie"] .non->Q (.ref l) H')/\(¬NoT es tl x->(∀(j:Nat) o,tl[j]?=some o->o=none)/\(∀M,IsMax (dl es n) M->0<nd at' M)/\RfP at' m H es n Q)
theorem xd_same{G G1:Hp}{e dx:Addr}{o1 o2:HO}(hdx:G dx=none)(he:upd G dx o1 e=none)(s:Same (upd (upd G dx o1) e o2) G1):Same G G1:=Same.trans (same_new hdx) (Same.trans (same_new he) s)
theorem ok_rf{at':Nat}{f fP:Addr}{fd fdP:FuncData}(F:Fun K "_law_refused" "_law_refused" sRf f fd)(G:Gw mg cN cR cP cT a1 a2 a3 a4 a5 a6 a7 te)(hbe:PySem.W.mroIn K te (.type "BaseException")=some true)
  (W0:Kw K cN cR cP cT a1 a2 a3 a4 a5 a6 a7 te cN 0)(W1:Kw K cN cR cP cT a1 a2 a3 a4 a5 a6 a7 te cR 1)(W2:Kw K cN cR cP cT a1 a2 a3 a4 a5 a6 a7 te cP 2)(W3:Kw K cN cR cP cT a1 a2 a3 a4 a5 a6 a7 te cT 3)
  (nR:PySem.W.findIn K (.ref cR) "ring"=some none)(nP:PySem.W.findIn K (.ref cP) "pair"=some none)(nT:PySem.W.findIn K (.ref cT) "need"=some none)(FW:FnE P w K mg base "_law_word" ["_law_error"] 1 (spWd K cN cR cP cT a1 a2 a3 a4 a5 a6 a7 te))
  (hC:Cls K C)(hM:Meth K C "put" fP)(FP:FnOk P w K mg base (RX.CXe P w) 4 fP fdP pPut (spPut at' C cN cR cP cT))(bP:L2.Binds K fdP pPut []):FnOk P w K mg base CX0 5 f fd pRf (spRf at' C):=by
 refine F.ok (k:=4) scRf (fun vs H Q E h=>?_) (fun cdv A outer s H vs Q E hr h=>?_)
 ·obtain⟨s,p,r,n,q,ts,es,tl,x,m,dx,rfl,_⟩:=h
  rfl
 ·obtain⟨sf,p,r,n,qa,ts,es,tl,x,m,dx,rfl,hs,N,hR,htl,hm,hKn,q1,q2⟩:=h
  obtain⟨tt,htt,tok,t0,t1,t2,t3⟩:=rf_tail (k0:=3) (H:=H) (E:=E) (Q:=Q) (outer:=outer) hr FW nR nP nT
  refine⟨_,pss_cons (ps_set (i:=5) scRf.nd rfl (Or.inl rfl) pe_non)
   (pss_cons (ps_set (i:=6) scRf.nd rfl (Or.inl rfl) pe_non)
   (pss_cons (RX.ps_try rfl rfl (fun pn E Ex ht=>pss_one (ps_set (i:=6) scRf.nd rfl (Or.inl rfl) (RX.pe_methX (pv 0) hC hM FP hr bP ht (pa_c (pv 1) (pa_c (pv 2) (pa_c (pv 3) (pa_c (pv 4) pa_nil)))))))
    (RX.ph_as (i:=7) rfl G.gE hbe scRf.nd rfl rfl (fun e=>pss_one (ps_set (i:=5) scRf.nd rfl (Or.inl rfl) (pv 7))) RX.ph_nil))
   htt)),?_⟩
  refine⟨_,rfl,sf,dx,_,rfl,hs,rfl,_,rfl,_,rfl,_,rfl,_,rfl,sf,p,r,n,qa,ts,es,tl,x,m,dx,rfl,hs,N,hR,htl,hm,hKn,fun hn=>?_,fun hn=>?_⟩
  ·refine⟨cN,true,rfl,W0.ke,?_⟩
   rw[if_pos rfl]
   intro e he
   exact⟨_,rfl,t0 _ _ _ _ _ _ _ _ _ e upd_same W0 fun G' l s' h'=>q1 hn G' l (Same.trans (same_new he) s') h'⟩
  ·obtain⟨hb,hp,hR1,hR2,hR3⟩:=q2 hn
   refine⟨hb,hp,fun a1 a2 G1 dx1 v rg k s1 hdx RA=>?_,fun a1 a2 G1 dx1 v s1 hdx PA'=>?_,fun a1 a2 G0 s0 M hMx=>⟨fun hlt G1 dx1 s1 hdx=>?_,fun hle G1 l xs s1 hl hx=>?_⟩⟩
   ·refine⟨cR,true,rfl,W1.ke,?_⟩
    rw[if_pos rfl]
    intro e he
    have hed:dx1≠e:=fun z=>by rw[<-z,upd_same]at he;cases he
    refine⟨_,rfl,t1 _ _ _ _ _ _ _ _ _ e dx1 v upd_same (by rw[upd_ne hed,upd_same]) (fun n z=>?_) W1 fun G' l s' h'=>?_⟩
    ·obtain⟨r',e1,_⟩:=RA.at_
     rw[e1]at z
     cases z
    ·have sx:=xd_same hdx he s'
     exact hR1 a1 a2 G' l v rg k (Same.trans s1 sx) (RA.same sx) h'
   ·refine⟨cP,true,rfl,W2.ke,?_⟩
    rw[if_pos rfl]
    intro e he
    have hed:dx1≠e:=fun z=>by rw[<-z,upd_same]at he;cases he
    refine⟨_,rfl,t2 _ _ _ _ _ _ _ _ _ e dx1 v upd_same (by rw[upd_ne hed,upd_same]) (fun n z=>?_) W2 fun G' l s' h'=>?_⟩
    ·obtain⟨u,i,j,e1,_⟩:=PA'
     rw[e1]at z
     cases z
    ·have sx:=xd_same hdx he s'
     exact hR2 a1 a2 G' l v (Same.trans s1 sx) (PA'.same sx) h'
   ·obtain⟨g1,_⟩:=hR3 a1 a2 M hMx
    refine⟨cT,true,rfl,W3.ke,?_⟩
    rw[if_pos rfl]
    intro e he
    have hed:dx1≠e:=fun z=>by rw[<-z,upd_same]at he;cases he
    exact⟨_,rfl,t3 _ _ _ _ _ _ _ _ _ e dx1 _ upd_same (by rw[upd_ne hed,upd_same]) (fun n z=>by cases z) W3 fun G' l s' h'=>g1 hlt G' l (Same.trans s0 (Same.trans s1 (xd_same hdx he s'))) h'⟩
   ·obtain⟨_,g2⟩:=hR3 a1 a2 M hMx
    exact tok _ _ _ _ _ _ _ _ _ fun G' l' s' h'=>g2 hle G' l' l xs (Same.trans s0 (Same.trans s1 s')) h' (s' _ _ hl) hx
def spAq(at':Nat)(C:Addr):Sp:=fun vs H Q _=>∃(s p:Addr)(n:Nat)(q:Addr)(ts:List V)(es:List (Nat×Nat))(dx:Addr),vs=[.ref s,.ref p]/\H s=some (.ins C dx [])/\NetZ H p n q ts es/\AqP at' H es n Q
theorem ok_aq{at':Nat}{f fA:Addr}{fd fdA:FuncData}(F:Fun K "_law_asked" "_law_asked" sAq f fd)(G:Gw mg cN cR cP cT a1 a2 a3 a4 a5 a6 a7 te)(hbe:PySem.W.mroIn K te (.type "BaseException")=some true)
  (W1:Kw K cN cR cP cT a1 a2 a3 a4 a5 a6 a7 te cR 1)(W2:Kw K cN cR cP cT a1 a2 a3 a4 a5 a6 a7 te cP 2)
  (nR:PySem.W.findIn K (.ref cR) "ring"=some none)(nP:PySem.W.findIn K (.ref cP) "pair"=some none)(FW:FnE P w K mg base "_law_word" ["_law_error"] 1 (spWd K cN cR cP cT a1 a2 a3 a4 a5 a6 a7 te))
  (hC:Cls K C)(hA:Meth K C "asked" fA)(FA:FnOk P w K mg base (RX.CXe P w) 3 fA fdA ["self","net"] (spAk at' cR cP))(bA:L2.Binds K fdA ["self","net"] []):FnOk P w K mg base CX0 5 f fd pAq (spAq at' C):=by
 refine F.ok (k:=4) scAq (fun vs H Q E h=>?_) (fun cdv A outer s H vs Q E hr h=>?_)
 ·obtain⟨s,p,n,q,ts,es,dx,rfl,_⟩:=h
  rfl
 ·obtain⟨sf,p,n,qa,ts,es,dx,rfl,hs,N,hR1,hR2,hR3⟩:=h
  have hr3:Room 3 _:=hr.mono (by omega)
  obtain⟨tt,htt,tok,t0,t1,t2⟩:=aq_tail (k0:=3) (H:=H) (E:=E) (Q:=Q) (outer:=outer) hr FW nR nP
  refine⟨_,pss_cons (ps_set (i:=2) scAq.nd rfl (Or.inl rfl) pe_non)
   (pss_cons (RX.ps_try rfl rfl (fun pn E Ex ht=>pss_one (ps_expr (RX.pe_methX (pv 0) hC hA FA hr3 bA ht (pa_c (pv 1) pa_nil))))
    (RX.ph_as (i:=3) rfl G.gE hbe scAq.nd rfl rfl (fun e=>pss_one (ps_set (i:=2) scAq.nd rfl (Or.inl rfl) (pv 3))) RX.ph_nil))
   htt),?_⟩
  refine⟨_,rfl,sf,dx,_,rfl,hs,rfl,_,rfl,sf,p,n,qa,ts,es,rfl,N,fun a1 a2 G1 dx1 v rg k s1 hdx RA=>?_,fun a1 a2 G1 dx1 v s1 hdx PA'=>?_,fun a1 a2 G1 s1=>?_⟩
  ·refine⟨cR,true,rfl,W1.ke,?_⟩
   rw[if_pos rfl]
   intro e he
   have hed:dx1≠e:=fun z=>by rw[<-z,upd_same]at he;cases he
   refine⟨_,rfl,t1 _ _ _ _ _ e dx1 v upd_same (by rw[upd_ne hed,upd_same]) (fun n z=>?_) W1 fun G' l s' h'=>?_⟩
   ·obtain⟨r',e1,_⟩:=RA.at_
    rw[e1]at z
    cases z
   ·have sx:=xd_same hdx he s'
    exact hR1 a1 a2 G' l v rg k (Same.trans s1 sx) (RA.same sx) h'
  ·refine⟨cP,true,rfl,W2.ke,?_⟩
   rw[if_pos rfl]
   intro e he
   have hed:dx1≠e:=fun z=>by rw[<-z,upd_same]at he;cases he
   refine⟨_,rfl,t2 _ _ _ _ _ e dx1 v upd_same (by rw[upd_ne hed,upd_same]) (fun n z=>?_) W2 fun G' l s' h'=>?_⟩
   ·obtain⟨u,i,j,e1,_⟩:=PA'
    rw[e1]at z
    cases z
   ·have sx:=xd_same hdx he s'
    exact hR2 a1 a2 G' l v (Same.trans s1 sx) (PA'.same sx) h'
  ·exact tok _ _ _ _ _ fun G' l' s' h'=>hR3 a1 a2 G' l' (Same.trans s1 s') h'
end
section
variable{P:Program}{w:World}{K:PySem.W.Frag}{mg:Str->Option Value}{base:Heap}
abbrev sDu:Stmt:=top 62
abbrev nDu:List Str:=["_law_net_here","_law_at","_law_no_tie_here","_law_many","_law_need"]
theorem scDu:FnScope nDu nDu (defScope sDu):=⟨rfl,rfl,rfl,by decide+kernel,rfl,by decide+kernel,by decide+kernel⟩
def spDu:Sp:=fun vs H Q _=>∃(p:Addr)(n:Nat)(q:Addr)(ts:List V)(es:List (Nat×Nat))(at':Nat)(nt:Bool)(m d:Int),vs=[.ref p,.int (at':Int),.bl nt,.int m,.int d]/\NetZ H p n q ts es/\
 (nt=true->∀H' l,Same H H'->H' l=some (.lst [.str "tie"])->Q (.ref l) H')/\
 (nt=false->(at'=1->¬Two es->∀H' l,Same H H'->H' l=some (.lst [.str "ring"])->Q (.ref l) H')/\(at'=2->Twin es->∀H' l,Same H H'->H' l=some (.lst [.str "pair"])->Q (.ref l) H')/\
  ((at'=1->Two es)->(at'=2->¬Twin es)->(m<d->∀H' l,Same H H'->H' l=some (.lst [.str "few"])->Q (.ref l) H')/\(d<=m->∀H' l,Same H H'->H' l=some (.lst [])->Q (.ref l) H')))
theorem ok_du{f:Addr}{fd:FuncData}(F:Fun K "_law_due" "_law_due" sDu f fd)(FT:FnE P w K mg base "_law_two_sided" ["_law_net_here"] 1 spTs)(FW:FnE P w K mg base "_law_twins" ["_law_net_here"] 1 spTw):FnOk P w K mg base CX0 2 f fd nDu spDu:=by
 refine F.ok scDu (fun vs H Q E h=>?_) (fun cdv A outer s H vs Q E hr h=>?_)
 ·obtain⟨p,n,q,ts,es,at',nt,m,d,rfl,_⟩:=h
  rfl
 ·obtain⟨p,n,qa,ts,es,at',nt,m,d,rfl,N,q1,q2⟩:=h
  obtain⟨t3,h3,r3⟩:∃t,PSs (cxOf CX0 P w K mg base nDu "_law_due" (defScope sDu) f cdv A outer s H E).nox ((defBody sDu).drop 3) t/\∀(G:Hp),Same H G->(m<d->∀H' l,Same G H'->H' l=some (.lst [.str "few"])->Q (.ref l) H')->(d<=m->∀H' l,Same G H'->H' l=some (.lst [])->Q (.ref l) H')->
    t {nx:=fun _ H'=>Q .non H',rt:=Q} [some (.ref p),some (.int (at':Int)),some (.bl nt),some (.int m),some (.int d)] G:=by
   refine⟨_,pss_cons (ps_if (pt_cmpR op_lt (pv 3) (pv 4) (nomark _)) (pss_one (ps_ret (pe_lstS (pa_c pe_str pa_nil)))) pss_nil) (pss_one (ps_ret (pe_lstS pa_nil))),fun G sG g1 g2=>?_⟩
   refine⟨_,rfl,_,rfl,_,_,rfl,rfl,_,rfl,?_⟩
   refine ite2 (fun z=>?_) (fun z=>?_)
   ·exact⟨rfl,fun l G1 s1 h1=>g1 (of_decide_eq_true z) G1 l s1 h1⟩
   ·have hz:¬m<d:=fun y=>z (decide_eq_true y)
    exact⟨rfl,fun l G1 s1 h1=>g2 (by omega) G1 l s1 h1⟩
  obtain⟨t2,h2,r2⟩:∃t,PSs (cxOf CX0 P w K mg base nDu "_law_due" (defScope sDu) f cdv A outer s H E).nox ((defBody sDu).drop 2) t/\∀(G:Hp),Same H G->nt=false->(at'=1->Two es)->t {nx:=fun _ H'=>Q .non H',rt:=Q} [some (.ref p),some (.int (at':Int)),some (.bl nt),some (.int m),some (.int d)] G:=by
   refine⟨_,pss_cons (ps_if (PW.pt (pw_and (pt_cmpR op_eq (pv 1) pe_int (nomark _)) (pw_and1 (pt_val (pe_fc FW hr (pa_c (pv 0) pa_nil)))))) (pss_one (ps_ret (pe_lstS (pa_c pe_str pa_nil)))) pss_nil) h3,fun G sG hnt ha=>?_⟩
   obtain⟨_,g2,g3⟩:=q2 hnt
   refine⟨_,rfl,rfl,_,rfl,?_⟩
   refine ite2 (fun z=>?_) (fun z=>?_)
   ·have hat:at'=2:=by have:=V.int.inj (of_decide_eq_true z);omega
    refine⟨_,rfl,p,n,qa,ts,es,rfl,N.same sG,fun G1 b s1 hb=>⟨_,rfl,?_⟩⟩
    cases b with
    |true=>exact iteT ⟨rfl,fun l G2 s2 h2=>g2 hat (hb.mp rfl) G2 l (Same.trans sG (Same.trans s1 s2)) h2⟩
    |false=>
     obtain⟨k1,k2⟩:=g3 ha (fun _ z=>by have:=hb.mpr z;cases this)
     exact iteF (r3 G1 (Same.trans sG s1) (fun y H' l s'=>k1 y H' l (Same.trans sG (Same.trans s1 s'))) (fun y H' l s'=>k2 y H' l (Same.trans sG (Same.trans s1 s'))))
   ·obtain⟨k1,k2⟩:=g3 ha (fun y=>absurd (decide_eq_true (by rw[y];rfl)) z)
    exact iteF (r3 G sG (fun y H' l s'=>k1 y H' l (Same.trans sG s')) (fun y H' l s'=>k2 y H' l (Same.trans sG s')))
  refine⟨_,pss_cons (ps_if (pt_val (pv 2)) (pss_one (ps_ret (pe_lstS (pa_c pe_str pa_nil)))) pss_nil)
   (pss_cons (ps_if (PW.pt (pw_and (pt_cmpR op_eq (pv 1) pe_int (nomark _)) (pw_and1 (pt_not (pt_val (pe_fc FT hr (pa_c (pv 0) pa_nil))))))) (pss_one (ps_ret (pe_lstS (pa_c pe_str pa_nil)))) pss_nil) h2),?_⟩
  cases nt with
  |true=>exact⟨_,rfl,_,rfl,iteT ⟨rfl,fun l G1 s1 h1=>q1 rfl G1 l s1 h1⟩⟩
  |false=>
   refine⟨_,rfl,_,rfl,iteF ?_⟩
   refine⟨_,rfl,rfl,_,rfl,?_⟩
   refine ite2 (fun z=>?_) (fun z=>?_)
   ·have hat:at'=1:=by have:=V.int.inj (of_decide_eq_true z);omega
    refine⟨_,rfl,p,n,qa,ts,es,rfl,N,fun G1 b s1 hb=>⟨_,rfl,?_⟩⟩
    cases b with
    |true=>exact iteF (r2 G1 s1 rfl fun _=>hb.mp rfl)
    |false=>exact iteT ⟨rfl,fun l G2 s2 h2=>(q2 rfl).1 hat (fun z=>by have:=hb.mpr z;cases this) G2 l (Same.trans s1 s2) h2⟩
   ·exact iteF (r2 H (Same.refl H) rfl fun y=>absurd (decide_eq_true (by rw[y];rfl)) z)
abbrev sFf:Stmt:=top 63
abbrev nFf:List Str:=["_law_net_here","_law_found","_law_need"]
theorem scFf:FnScope nFf nFf (defScope sFf):=⟨rfl,rfl,rfl,by decide+kernel,rfl,by decide+kernel,by decide+kernel⟩
def FitP(H:Hp)(es:List (Nat×Nat))(n:Nat)(d:Int)(o:Option Str)(v:V):Prop:=
 (o=some "ring"/\∃R m,RingAt H es n v R m)\/(o=some "pair"/\PairAt H es v)\/(o=some "few"/\v= .int d)\/(o=none/\∃sl xs,v= .ref sl/\H sl=some (.lst xs)/\xs.length=1)\/(o=some "tie"/\v= .non)
def spFf:Sp:=fun vs H Q _=>∃(p l wl:Addr)(n:Nat)(q:Addr)(ts:List V)(es:List (Nat×Nat))(d:Int)(o:Option Str)(v:V),vs=[.ref p,.ref l,.int d]/\NetZ H p n q ts es/\H l=some (.lst [.ref wl,v])/\H wl=some (.lst (oneW o))/\FitP H es n d o v/\∀H',Same H H'->Q (.bl true) H'
theorem ok_ff{f:Addr}{fd:FuncData}(F:Fun K "_law_field_fits" "_law_field_fits" sFf f fd)(T:Bi mg)(FR:FnE P w K mg base "_law_is_ring" ["_law_net_here","_law_ring"] 3 spRi)(FP:FnE P w K mg base "_law_is_pair" nPr 3 spPr)(FW:FnE P w K mg base "_law_whole" ["_law_found"] 1 (spWh K)):FnOk P w K mg base CX0 4 f fd nFf spFf:=by
 refine F.ok (k:=3) scFf (fun vs H Q E h=>?_) (fun cdv A outer s H vs Q E hr h=>?_)
 ·obtain⟨p,l,wl,n,q,ts,es,d,o,v,rfl,_⟩:=h
  rfl
 ·obtain⟨p,l,wl,n,qa,ts,es,d,o,v,rfl,N,hl,hw,hF,q⟩:=h
  have hr1:Room 1 _:=hr.mono (by omega)
  refine⟨_,pss_cons (ps_if (pt_cmpR (op_eqW hr) (pe_ix ix_list (pv 1) pe_int (fun _ _=>rfl)) (pe_lstS (pa_c pe_str pa_nil)) rfl) (pss_one (ps_ret (pe_fc FR hr (pa_c (pv 0) (pa_c (pe_ix ix_list (pv 1) pe_int (fun _ _=>rfl)) pa_nil))))) pss_nil)
   (pss_cons (ps_if (pt_cmpR (op_eqW hr) (pe_ix ix_list (pv 1) pe_int (fun _ _=>rfl)) (pe_lstS (pa_c pe_str pa_nil)) rfl) (pss_one (ps_ret (pe_fc FP hr (pa_c (pv 0) (pa_c (pe_ix ix_list (pv 1) pe_int (fun _ _=>rfl)) pa_nil))))) pss_nil)
   (pss_cons (ps_if (pt_cmpR (op_eqW hr) (pe_ix ix_list (pv 1) pe_int (fun _ _=>rfl)) (pe_lstS (pa_c pe_str pa_nil)) rfl) (pss_one (ps_ret (pe_and (pe_fc FW hr1 (pa_c (pe_ix ix_list (pv 1) pe_int (fun _ _=>rfl)) pa_nil)) (pe_one (pe_cmpR op_eq (pe_ix ix_list (pv 1) pe_int (fun _ _=>rfl)) (pv 2) (nomark _)))))) pss_nil)
   (pss_cons (ps_if (pt_cmpR (op_eqLE hr) (pe_ix ix_list (pv 1) pe_int (fun _ _=>rfl)) (pe_lstS pa_nil) rfl) (pss_one (ps_ret (pe_and (pe_callB call_isinst rfl T.isi bIsi (pa_c (pe_ix ix_list (pv 1) pe_int (fun _ _=>rfl)) (pa_c (pe_bltn (v:= .ty "list") rfl T.list bList rfl) pa_nil))) (pe_one (pe_cmpR op_gt (pe_callB call_len_seq rfl T.len bLen (pa_c (pe_ix ix_list (pv 1) pe_int (fun _ _=>rfl)) pa_nil)) pe_int (nomark _)))))) pss_nil)
   (pss_one (ps_ret pe_bl))))),?_⟩
  refine⟨_,rfl,l,_,_,_,rfl,rfl,SqL.of hl,rfl,rfl,fun x1 G1 s1 hx1=>⟨wl,x1,o,"ring",rfl,rfl,SqL.of (s1 _ _ hw),SqL.of hx1,_,rfl,?_⟩⟩
  have l1:=s1 _ _ hl
  have w1:=s1 _ _ hw
  rcases hF with⟨rfl,R,m,RA⟩|hF
  ·refine ite2 (fun _=>?_) (fun z=>absurd (decide_eq_true rfl) z)
   refine⟨_,rfl,_,rfl,l,_,_,_,rfl,rfl,SqL.of l1,rfl,p,n,qa,ts,es,v,R,m,rfl,N.same s1,RA.same s1,fun G2 s2=>q G2 (Same.trans s1 s2)⟩
  rw[decide_eq_false (fun z=>by
   rcases hF with⟨e,_⟩|⟨e,_⟩|⟨e,_⟩|⟨e,_⟩
   ·rw[e]at z;exact ne_rp z
   ·rw[e]at z;exact ne_rf z
   ·rw[e]at z;cases z
   ·rw[e]at z;exact ne_rt z)]
  refine iteF ⟨_,rfl,l,_,_,_,rfl,rfl,SqL.of l1,rfl,rfl,fun x2 G2 s2 hx2=>⟨wl,x2,o,"pair",rfl,rfl,SqL.of (s2 _ _ w1),SqL.of hx2,_,rfl,?_⟩⟩
  have s12:=Same.trans s1 s2
  have l2:=s2 _ _ l1
  have w2:=s2 _ _ w1
  rcases hF with⟨rfl,PA'⟩|hF
  ·refine ite2 (fun _=>?_) (fun z=>absurd (decide_eq_true rfl) z)
   refine⟨_,rfl,_,rfl,l,_,_,_,rfl,rfl,SqL.of l2,rfl,p,n,qa,ts,es,v,rfl,N.same s12,PA'.same s12,fun G3 s3=>q G3 (Same.trans s12 s3)⟩
  rw[decide_eq_false (fun z=>by
   rcases hF with⟨e,_⟩|⟨e,_⟩|⟨e,_⟩
   ·rw[e]at z;exact ne_pf z
   ·rw[e]at z;cases z
   ·rw[e]at z;exact ne_pt z)]
  refine iteF ⟨_,rfl,l,_,_,_,rfl,rfl,SqL.of l2,rfl,rfl,fun x3 G3 s3 hx3=>⟨wl,x3,o,"few",rfl,rfl,SqL.of (s3 _ _ w2),SqL.of hx3,_,rfl,?_⟩⟩
  have s13:=Same.trans s12 s3
  have l3:=s3 _ _ l2
  have w3:=s3 _ _ w2
  rcases hF with⟨rfl,rfl⟩|hF
  ·refine ite2 (fun _=>?_) (fun z=>absurd (decide_eq_true rfl) z)
   refine⟨_,rfl,l,_,_,_,rfl,rfl,SqL.of l3,rfl,_,rfl,.inl ⟨_,rfl,_,rfl,iteT ?_⟩⟩
   refine⟨_,rfl,l,_,_,_,rfl,rfl,SqL.of l3,rfl,_,rfl,rfl,?_⟩
   rw[decide_eq_true rfl]
   exact q G3 s13
  rw[decide_eq_false (fun z=>by
   rcases hF with⟨e,_⟩|⟨e,_⟩
   ·rw[e]at z;cases z
   ·rw[e]at z;exact ne_ft z)]
  refine iteF ⟨_,rfl,l,_,_,_,rfl,rfl,SqL.of l3,rfl,rfl,fun x4 G4 s4 hx4=>⟨wl,x4,_,rfl,rfl,SqL.of (s4 _ _ w3),SqL.of hx4,_,rfl,?_⟩⟩
  have s14:=Same.trans s13 s4
  have l4:=s4 _ _ l3
  rcases hF with⟨rfl,sl,xs,rfl,hsl,hxs⟩|⟨rfl,rfl⟩
  ·refine iteT ⟨_,rfl,l,_,_,_,rfl,rfl,SqL.of l4,rfl,_,_,_,_,rfl,.lst (s14 _ _ hsl),kit K "list" "list" true (by decide+kernel),_,rfl,iteT ?_⟩
   refine⟨_,rfl,l,_,_,_,rfl,rfl,SqL.of l4,rfl,sl,_,rfl,.inl (SqL.of (s14 _ _ hsl)),_,_,rfl,rfl,?_⟩
   rw[hxs]
   exact q G4 s14
  ·exact iteF (q G4 s14)
end
theorem nine{P:Int->Prop}(h0:P 0)(h1:P 1)(h2:P 2)(h3:P 3)(h4:P 4)(h5:P 5)(h6:P 6)(h7:P 7)(h8:P 8){i:Int}(a:0<=i)(b:i<9):P i:=by
 obtain⟨k,rfl⟩:∃k:Nat,i=(k:Int):=⟨i.toNat,by omega⟩
 match k,b with
 |0,_=>exact h0
 |1,_=>exact h1
 |2,_=>exact h2
 |3,_=>exact h3
 |4,_=>exact h4
 |5,_=>exact h5
 |6,_=>exact h6
 |7,_=>exact h7
 |8,_=>exact h8
 |k+9,b=>exact absurd b (by omega)
theorem bel_neg{i:Int}{L:Int}(h:i<0\/L<=i):bel (.int i) L=false:=by
 show(decide (0<=i)&&decide (i<L))=false
 rcases h with h|h
 ·rw[decide_eq_false (p:=0<=i) (by omega),Bool.false_and]
 ·rw[decide_eq_false (p:=i<L) (by omega),Bool.and_false]
section
variable{P:Program}{w:World}{K:PySem.W.Frag}{mg:Str->Option Value}{base:Heap}
abbrev sNo:Stmt:=top 64
abbrev nNo:List Str:=["_law_number","_law_ties","_law_far"]
theorem scNo:FnScope nNo ["_law_number","_law_ties"] (defScope sNo):=⟨rfl,rfl,rfl,by decide+kernel,rfl,by decide+kernel,by decide+kernel⟩
def spNo:Sp:=fun vs H Q _=>∃(num:Int)(L:Nat),vs=[.int num,.int (L:Int)]/\L<=1000/\∀H' x,Same H H'->Kn H' x->bel x (L:Int)=false->Q x H'
theorem ok_no{f:Addr}{fd:FuncData}(F:Fun K "_law_no_tie" "_law_no_tie" sNo f fd):FnOk P w K mg base CX0 1 f fd ["_law_number","_law_ties"] spNo:=by
 refine F.ok scNo (fun vs H Q E h=>?_) (fun cdv A outer s H vs Q E hr h=>?_)
 ·obtain⟨num,L,rfl,_⟩:=h
  rfl
 ·obtain⟨num,L,rfl,hL,q⟩:=h
  obtain⟨e0,e1,e2,e3,e4,e5,e6,e7,e8,p0,pI,p1,p2,eq,hpI,hpl,k0,q0,k1,q1,k2,q2,k3,q3,k4,q4,k5,q5,k6,q6,k7,q7,k8,q8⟩:∃(e0 e1 e2 e3 e4 e5 e6 e7 e8:Expr)(p0:Pos)(pI:Expr)(p1 p2:Pos),(defBody sNo).drop 1=[.Return (some (.Subscript (.List [e0,e1,e2,e3,e4,e5,e6,e7,e8] p0) pI p1)) p2]/\
    PE (cxOf CX0 P w K mg base nNo "_law_no_tie" (defScope sNo) f cdv A outer s H E).nox pI (tOp (rI (fun _ j=>0<j) fun i j=> .int (i%j)) (tVar 0) (tC (.int 9)))/\PlainIx pI/\
    PE (cxOf CX0 P w K mg base nNo "_law_no_tie" (defScope sNo) f cdv A outer s H E).nox e0 (tOp (rI0 fun i j=> .int (i-j)) (tUn (rU fun i=> .int (-i)) (tC (.int 1))) (tVar 2))/\plainE e0=true/\
    PE (cxOf CX0 P w K mg base nNo "_law_no_tie" (defScope sNo) f cdv A outer s H E).nox e1 (tOp (rI0 fun i j=> .int (i+j)) (tVar 1) (tVar 2))/\plainE e1=true/\
    PE (cxOf CX0 P w K mg base nNo "_law_no_tie" (defScope sNo) f cdv A outer s H E).nox e2 (tC (.bl true))/\plainE e2=true/\PE (cxOf CX0 P w K mg base nNo "_law_no_tie" (defScope sNo) f cdv A outer s H E).nox e3 (tC (.bl false))/\plainE e3=true/\
    PE (cxOf CX0 P w K mg base nNo "_law_no_tie" (defScope sNo) f cdv A outer s H E).nox e4 (tC .non)/\plainE e4=true/\PE (cxOf CX0 P w K mg base nNo "_law_no_tie" (defScope sNo) f cdv A outer s H E).nox e5 (tC (.str "0"))/\plainE e5=true/\
    PE (cxOf CX0 P w K mg base nNo "_law_no_tie" (defScope sNo) f cdv A outer s H E).nox e6 (tTupS (tCons (tC (.int 0)) tNil))/\plainE e6=true/\PE (cxOf CX0 P w K mg base nNo "_law_no_tie" (defScope sNo) f cdv A outer s H E).nox e7 (tLstS (tCons (tC (.int 0)) tNil))/\plainE e7=true/\
    PE (cxOf CX0 P w K mg base nNo "_law_no_tie" (defScope sNo) f cdv A outer s H E).nox e8 (tOp (rI CPow fun i j=>V.int (i^j.toNat)) (tC (.int 10)) (tC (.int 20)))/\plainE e8=true:=
   ⟨_,_,_,_,_,_,_,_,_,_,_,_,_,rfl,pe_op op_mod (pv 0) pe_int,fun _ _=>rfl,pe_op op_sub (pe_un un_neg pe_int) (pv 2),rfl,pe_op op_add (pv 1) (pv 2),rfl,pe_bl,rfl,pe_bl,rfl,pe_non,rfl,pe_str,rfl,pe_tupS (pa_c pe_int pa_nil),rfl,pe_lstS (pa_c pe_int pa_nil),rfl,pe_op op_pow pe_int pe_int,rfl⟩
  obtain⟨L1,hL1⟩:∃l,l=(defBody sNo).drop 1:=⟨_,rfl⟩
  rw[<-hL1]at eq
  have eB:defBody sNo=(defBody sNo).getD 0 (.Pass ⟨0,0,0,0⟩)::L1:=by rw[hL1];rfl
  obtain⟨t0,ht0,r0⟩:∃t,PS (cxOf CX0 P w K mg base nNo "_law_no_tie" (defScope sNo) f cdv A outer s H E).nox ((defBody sNo).getD 0 (.Pass ⟨0,0,0,0⟩)) t/\∀D:Ends,(∀far:Int,0<=far->far<1000->D.nx [some (.int num),some (.int (L:Int)),some (.int far)] H)->t D (start nNo [.int num,.int (L:Int)]) H:=by
   refine⟨_,ps_set (i:=2) scNo.nd rfl (Or.inl rfl) (pe_op op_mod (pe_op op_fdiv (pv 0) pe_int) pe_int),fun D h=>?_⟩
   exact⟨_,rfl,_,_,rfl,rfl,⟨by decide,by decide⟩,_,_,rfl,rfl,(by show(0:Int)<1000;decide),h _ (mod_lo (by decide)) (mod_hi (by decide))⟩
  obtain⟨s0,hs0⟩:∃x,x=(defBody sNo).getD 0 (.Pass ⟨0,0,0,0⟩):=⟨_,rfl⟩
  rw[<-hs0]at eB ht0
  rw[eB,eq]
  refine⟨_,pss_cons ht0 (pss_one (ps_ret (pe_ix ix_list (pe_lstS (pa_c k0 (pa_c k1 (pa_c k2 (pa_c k3 (pa_c k4 (pa_c k5 (pa_c k6 (pa_c k7 (pa_c k8 pa_nil q8) q7) q6) q5) q4) q3) q2) q1) q0)) hpI hpl))),?_⟩
  refine r0 _ fun far f0 f1=>?_
  refine⟨1,rfl,_,rfl,_,_,rfl,rfl,_,rfl,_,rfl,_,_,rfl,rfl,rfl,fun t6 G6 s6 h6=>⟨rfl,fun t7 G7 s7 h7=>⟨10,20,rfl,rfl,⟨by decide,by decide,by decide⟩,rfl,fun l G8 s8 h8=>?_⟩⟩⟩
  have s08:Same H G8:=Same.trans s6 (Same.trans s7 s8)
  have m0:=mod_lo (n:=num) (p:=9) (by decide)
  have m1:=mod_hi (n:=num) (p:=9) (by decide)
  obtain⟨v,hat,hkn,hb⟩:∃v,atI [V.int (-1-far),.int ((L:Int)+far),.bl true,.bl false,.non,.str "0",.ref t6,.ref t7,.int (10^(20:Int).toNat)] (num%9)=some v/\Kn G8 v/\bel v (L:Int)=false:=
   nine (P:=fun i=>∃v,atI [V.int (-1-far),.int ((L:Int)+far),.bl true,.bl false,.non,.str "0",.ref t6,.ref t7,.int (10^(20:Int).toNat)] i=some v/\Kn G8 v/\bel v (L:Int)=false)
    ⟨_,rfl,.int _,bel_neg (.inl (by omega))⟩ ⟨_,rfl,.int _,bel_neg (.inr (by omega))⟩ ⟨_,rfl,.bl _,rfl⟩ ⟨_,rfl,.bl _,rfl⟩ ⟨_,rfl,.non,rfl⟩ ⟨_,rfl,.str _,rfl⟩ ⟨_,rfl,.tup (s8 _ _ (s7 _ _ h6)),rfl⟩ ⟨_,rfl,.lst (s8 _ _ h7),rfl⟩ ⟨_,rfl,.int _,bel_neg (.inr (by
     have:(1000:Int)<=10^(20:Int).toNat:=by decide
     omega))⟩ m0 m1
  exact⟨_,rfl,_,_,rfl,rfl,(by show(0:Int)<9;decide),l,_,_,v,rfl,rfl,SqL.of h8,hat,q G8 v s08 hkn hb⟩
end
end My
namespace L2
open PySem PySem.Spec PyProof.Rows
def tLCTF(K:PySem.W.Frag)(bs:List (Option Nat))(tl:TE)(g:TG)(tt:TT)(te:TE):TE:=fun σ H Q=>tl σ H fun x H1=>∃a xs,x= .ref a/\SqT K H1 a xs/\xs.length<=100000/\∃Pv:Nat->List V->St->Hp->Prop,Pv 0 [] (bst bs σ) H1/\
 (∀i ys σ H,i<=xs.length->Pv i ys σ H->SqT K H a xs/\ys.length<=i)/\
 (∀i x ys σ H,xs[i]?=some x->Pv i ys σ H->g x σ H fun σ3 H3=>tt σ3 H3 fun b H4=>if b=true then te σ3 H4 fun v H5=>Pv (i+1) (ys++[v]) σ3 H5 else Pv (i+1) ys σ3 H4)/\
 ∀ys σ H,Pv xs.length ys σ H->∀p,H p=none->Q (.ref p) (upd H p (.lst ys))
theorem ps_lcTF{X:Cx}{scope:Scope}{cl:List (Str×Addr)}{N:List Str}{bs:List (Option Nat)}{tg iter elt:Expr}{ifs:List Expr}{pos spos px:Pos}{x:Str}{tl:TE}{g gt:TG}{tt:TT}{te:TE}(B:Blk X scope cl N bs)(hc:X.calm=true)
  (hl:PE X iter tl)(hm:MonoE tl)(hg:∀C fp s H,PG (cxBlk X scope cl C N fp s H) tg g) (ht:∀C fp s H,PTs (cxBlk X scope cl C N fp s H) ifs tt) (he:∀C fp s H,PE (cxBlk X scope cl C N fp s H) elt te)
  (hgt:PG X (.Name x px) gt) (hsw:swapsWith (.ListComp elt [⟨tg,iter,ifs,0⟩] scope pos) (some (.Name x px)) spos.line X.env=pure true)
  (hs:∀x,foldedSetIterable iter X.env x=pure x:=by intro _;rfl):PS X (.Assign [.Name x px] (.ListComp elt [⟨tg,iter,ifs,0⟩] scope pos) spos) (tAsg (tLCTF X.K bs tl g tt te) gt):=by
 intro pins s σ H D I h
 refine @ps_lc X scope cl N bs tg iter elt ifs pos spos px x (iTup X.K tl) g gt tt te B hc (@pi_tup X _ _ _ hl) hg ht he hgt hsw hs pins s σ H D I ?_
 refine hm σ H _ _ (fun x H1 h=>?_) h
 obtain⟨a,xs,e,hS,hz,Pv,p0,pl,ps,pd⟩:=h
 exact⟨a,e,⟨xs,hS⟩,lc_tup (Q:=fun x H1=>gt x σ H1 D.nx) Pv (leMil hz) p0 pl ps fun ys σ H hp p hpn=>pd ys σ H hp p hpn⟩
end L2
namespace My
open PySem L2
theorem sam_one{K:PySem.W.Frag}{H:Hp}{a b:Addr}{o:Option Str}(ha:H a=some (.lst (oneW o)))(hb:H b=some (.lst (oneW o))):Sam K H 1 (.ref a) (.ref b):=by
 refine .inr ⟨a,b,_,_,rfl,rfl,.inr ⟨SqL.of ha,SqL.of hb⟩,rfl,fun i u v hu hv=>?_⟩
 cases o with
 |none=>cases hu
 |some x=>
  match i,hu,hv with
  |0,hu,hv=>cases hu;cases hv;exact Sam.atom trivial
theorem max_pos{es:List (Nat×Nat)}{n:Nat}{M:Int}(ok:∀e∈es,e.1<n/\e.2<n/\e.1≠e.2) (h:IsMax (dl es n) M) (he:0<es.length):0<M:=by
 cases es with
 |nil=>exact absurd he (Nat.lt_irrefl _)
 |cons e r=>
  obtain⟨h1,_,_⟩:=ok e (.head _)
  have:=most_le h h1
  have hd:0<dg (e::r) (e::r).length e.1:=by
   unfold dg
   refine List.length_pos_of_mem (a:=0) (List.mem_filter.mpr ⟨List.mem_range.mpr (Nat.succ_pos _),?_⟩)
   exact atB_iff.mpr (Or.inl rfl)
  omega
def DueIs(at':Nat)(es:List (Nat×Nat))(nt:Prop)(m d:Int)(o:Option Str):Prop:=
 (o=some "tie"/\nt)\/(o=some "ring"/\¬nt/\at'=1/\¬Two es)\/(o=some "pair"/\¬nt/\at'=2/\Twin es)\/(o=some "few"/\¬nt/\(at'=1->Two es)/\(at'=2->¬Twin es)/\m<d)\/(o=none/\¬nt/\(at'=1->Two es)/\(at'=2->¬Twin es)/\d<=m)
theorem nd_pos{at':Nat}{M:Int}(h:0<M):0<nd at' M:=by
 unfold nd
 split
 ·unfold g0;split<;>omega
 ·exact h
 ·unfold g2;rw[if_pos h];omega
 ·unfold g3;omega
theorem nd_at{at':Nat}{M:Int}(h:0<M)(ha:at'<4):atI [V.int (2*M-1),.int M,.int (M+1),.int (M+M/2)] (at':Int)=some (.int (nd at' M)):=by
 match at',ha with
 |0,_=>
  show some (V.int (2*M-1))=some (V.int (g0 M))
  unfold g0
  rw[if_neg (by omega)]
 |1,_=>rfl
 |2,_=>
  show some (V.int (M+1))=some (V.int (g2 M))
  unfold g2
  rw[if_pos h]
 |3,_=>
  show some (V.int (M+M/2))=some (V.int (g3 M))
  unfold g3
  congr 2
  omega
theorem nd_le{at':Nat}{M:Int}(h:0<M)(h2:M<=100):nd at' M<=200:=by
 unfold nd
 split
 ·unfold g0;split<;>omega
 ·show M<=200;omega
 ·unfold g2;rw[if_pos h];omega
 ·unfold g3;omega
section
variable{P:Program}{w:World}{K:PySem.W.Frag}{mg:Str->Option Value}{base:Heap}{cl:Nat->Addr}
def spRfA(cl:Nat->Addr):Sp:=fun vs H Q E=>∃at',at'<4/\spRf at' (cl at') vs H Q E
def spAqA(cl:Nat->Addr):Sp:=fun vs H Q E=>∃at',at'<4/\spAq at' (cl at') vs H Q E
theorem fn_four{k:Nat}{f:Addr}{fd:FuncData}{ps:List Str}{sp:Nat->Sp}(h:∀at',at'<4->FnOk P w K mg base CX0 k f fd ps (sp at')):FnOk P w K mg base CX0 k f fd ps (fun vs H Q E=>∃at',at'<4/\sp at' vs H Q E):=
 ⟨fun vs H Q E⟨a,ha,z⟩=>(h a ha).len vs H Q E z,fun A outer s H args us vs Q E hr he hb hv⟨a,ha,z⟩=>(h a ha).run A outer s H args us vs Q E hr he hb hv z⟩
abbrev sPd:Stmt:=top 65
abbrev nPd:List Str:=["_law_script","_law_way","_law_at","_law_net_here","_law_k","_law_most_here","_law_need","_law_kind","_law_tie_here","_law_many","_law_tints","_law_due_here","_law_found"]
abbrev pPd:List Str:=["_law_script","_law_way","_law_at","_law_net_here","_law_k"]
abbrev pdS:Scope:=compScope (retE (stOf 65 5))
theorem ndPd:(["_law_one"]:List Str).Nodup:=by decide+kernel
theorem scPd:FnScope nPd pPd (defScope sPd):=⟨rfl,rfl,rfl,by decide+kernel,rfl,by decide+kernel,by decide+kernel⟩
theorem blkPd{f:Addr}{cdv:Value}{A:Around}{outer:List Env}{s:Shared}{H:Hp}{E:XK}:
  Blk (cxOf CX0 P w K mg base nPd "_law_put_as_due" (defScope sPd) f cdv A outer s H E).nox pdS [] ["_law_one"] [none]:=by
 refine⟨rfl,rfl,by decide+kernel,by decide+kernel,fun p hp=>(by cases hp),fun y hy e=>?_,trivial⟩
 have hy':y∈[((PySem.Str.ofString ".0":Str),NameKind.local),(PySem.Str.ofString "_law_one",.local)]:=hy
 simp only[List.mem_cons,List.not_mem_nil,or_false]at hy'
 rcases hy' with rfl|rfl<;>cases e
theorem pd_t10{f:Addr}{cdv:Value}{A:Around}{outer:List Env}{s:Shared}{H:Hp}{E:XK}{Q:VK}(hr:Room 5 (A.deeper (PyProof.Rows.envOfC "_law_put_as_due" (defScope sPd) s.heap.objs.size f cdv)))(FFf:FnE P w K mg base "_law_field_fits" nFf 4 spFf)
  {p qa:Addr}{n:Nat}{ts:List V}{es:List (Nat×Nat)}{d:Int}(N:NetZ H p n qa ts es)(hq:∀H',Same H H'->Q (.bl true) H'):
  ∃t,PSs (cxOf CX0 P w K mg base nPd "_law_put_as_due" (defScope sPd) f cdv A outer s H E).nox ((defBody sPd).drop 10) t/\∀(G:Hp)(u0 u1 u2 u4 u5 u7 u8 u9 u10:Option V)(l1 l:Addr)(o:Option Str)(v:V),Same H G->G l1=some (.lst (oneW o))->RfAt G l (oneW o) v->FitP G es n d o v->
   t {nx:=fun _ H'=>Q .non H',rt:=Q} [u0,u1,u2,some (.ref p),u4,u5,some (.int d),u7,u8,u9,u10,some (.ref l1),some (.ref l)] G:=by
 have hr4:Room 4 _:=hr.mono (by omega)
 refine⟨_,pss_one (ps_ret (pe_and (pe_cmpR (op_eqS hr) (pe_ix ix_list (pv 12) pe_int (fun _ _=>rfl)) (pv 11) rfl) (pe_one (pe_fc FFf hr4 (pa_c (pv 3) (pa_c (pv 12) (pa_c (pv 6) pa_nil))))))),fun G u0 u1 u2 u4 u5 u7 u8 u9 u10 l1 l o v sG h1 hR hF=>?_⟩
 obtain⟨wl,hl,hw⟩:=hR
 refine⟨_,rfl,l,_,_,_,rfl,rfl,SqL.of hl,rfl,_,rfl,wl,l1,1,rfl,rfl,by decide,sam_one hw h1,_,rfl,iteT ?_⟩
 exact⟨_,rfl,_,rfl,_,rfl,p,l,wl,n,qa,ts,es,d,o,v,rfl,N.same sG,hl,hw,hF,fun H' s'=>hq H' (Same.trans sG s')⟩
theorem pd_t9{f:Addr}{cdv:Value}{A:Around}{outer:List Env}{s:Shared}{H:Hp}{E:XK}{Q:VK}(T:Bi mg)(hr:Room 5 (A.deeper (PyProof.Rows.envOfC "_law_put_as_due" (defScope sPd) s.heap.objs.size f cdv)))(FRf:FnE P w K mg base "_law_refused" pRf 5 (spRfA cl))(FFf:FnE P w K mg base "_law_field_fits" nFf 4 spFf)
  {sf dx p qa:Addr}{at' n:Nat}{ts:List V}{es:List (Nat×Nat)}{M:Int}(hat:at'<4)(hs:H sf=some (.ins (cl at') dx []))(N:NetZ H p n qa ts es)(hM:IsMax (dl es n) M)(hM0:0<M)(hq:∀H',Same H H'->Q (.bl true) H'):
  ∃t,PSs (cxOf CX0 P w K mg base nPd "_law_put_as_due" (defScope sPd) f cdv A outer s H E).nox ((defBody sPd).drop 9) t/\∀(G:Hp)(u0 u2 u4 u5 u7:Option V)(x:V)(m:Nat)(tl:List (Option Nat))(lt l1:Addr)(o:Option Str),Same H G->G lt=some (.lst (tv tl))->tl.length=es.length->m<=1000->Kn G x->(¬NoT es tl x->∀(j:Nat) o,tl[j]?=some o->o=none)->G l1=some (.lst (oneW o))->DueIs at' es (NoT es tl x) (m:Int) (nd at' M) o->
   t {nx:=fun _ H'=>Q .non H',rt:=Q} [u0,some (.ref sf),u2,some (.ref p),u4,u5,some (.int (nd at' M)),u7,some x,some (.int (m:Int)),some (.ref lt),some (.ref l1),none] G:=by
 obtain⟨t10,h10,r10⟩:=pd_t10 (d:=nd at' M) (H:=H) (E:=E) (Q:=Q) (outer:=outer) hr FFf N hq
 refine⟨_,pss_cons (ps_set (i:=12) scPd.nd rfl (Or.inl rfl) (pe_fc FRf hr (pa_c (pv 1) (pa_c (pv 3) (pa_c (pe_callTy call_tuple_ofS rfl T.tuple bTuple (pa_c (pv 10) pa_nil)) (pa_c (pv 8) (pa_c (pv 9) pa_nil))))))) h10,fun G u0 u2 u4 u5 u7 x m tl lt l1 o sG hlt htl hm hKn hbare h1 hD=>?_⟩
 refine⟨_,rfl,_,rfl,_,rfl,lt,_,rfl,.inl hlt,fun r G1 s1 hr1=>⟨_,rfl,_,rfl,at',hat,sf,p,r,n,qa,ts,es,tl,x,m,dx,rfl,s1 _ _ (sG _ _ hs),(N.same sG).same s1,hr1,htl,hm,hKn.same s1,fun hn G2 l s2 hR=>?_,fun hn=>⟨hbare hn,fun M' hM'=>?_,fun e1 e2 G2 l v rg k s2 RA hR=>?_,fun e1 e2 G2 l v s2 PA' hR=>?_,fun e1 e2 M' hM'=>⟨fun hlt G2 l s2 hR=>?_,fun hle G2 l sl xs s2 hR hsl hxs=>?_⟩⟩⟩⟩
 ·have ho:o=some "tie":=by
   rcases hD with⟨e,_⟩|⟨_,z,_⟩|⟨_,z,_⟩|⟨_,z,_⟩|⟨_,z,_⟩
   ·exact e
   all_goals exact absurd hn z
  subst ho
  exact r10 G2 _ _ _ _ _ _ _ _ _ l1 l (some "tie") .non (Same.trans sG (Same.trans s1 s2)) (s2 _ _ (s1 _ _ h1)) hR (.inr (.inr (.inr (.inr ⟨rfl,rfl⟩))))
 ·rw[IsMax.uniq hM' hM]
  exact nd_pos hM0
 ·have ho:o=some "ring":=by
   rcases hD with⟨_,z⟩|⟨e,_⟩|⟨_,_,z,_⟩|⟨_,_,z,_⟩|⟨_,_,z,_⟩
   ·exact absurd z hn
   ·exact e
   ·omega
   ·exact absurd (z e1) e2
   ·exact absurd (z e1) e2
  subst ho
  exact r10 G2 _ _ _ _ _ _ _ _ _ l1 l (some "ring") v (Same.trans sG (Same.trans s1 s2)) (s2 _ _ (s1 _ _ h1)) hR (.inl ⟨rfl,rg,k,RA⟩)
 ·have ho:o=some "pair":=by
   rcases hD with⟨_,z⟩|⟨_,_,z,_⟩|⟨e,_⟩|⟨_,_,_,z,_⟩|⟨_,_,_,z,_⟩
   ·exact absurd z hn
   ·omega
   ·exact e
   ·exact absurd e2 (z e1)
   ·exact absurd e2 (z e1)
  subst ho
  exact r10 G2 _ _ _ _ _ _ _ _ _ l1 l (some "pair") v (Same.trans sG (Same.trans s1 s2)) (s2 _ _ (s1 _ _ h1)) hR (.inr (.inl ⟨rfl,PA'⟩))
 ·rw[IsMax.uniq hM' hM]at hlt hR
  have ho:o=some "few":=by
   rcases hD with⟨_,z⟩|⟨_,_,z1,z2⟩|⟨_,_,z1,z2⟩|⟨e,_⟩|⟨_,_,_,_,z⟩
   ·exact absurd z hn
   ·exact absurd (e1 z1) z2
   ·exact absurd z2 (e2 z1)
   ·exact e
   ·omega
  subst ho
  exact r10 G2 _ _ _ _ _ _ _ _ _ l1 l (some "few") _ (Same.trans sG (Same.trans s1 s2)) (s2 _ _ (s1 _ _ h1)) hR (.inr (.inr (.inl ⟨rfl,rfl⟩)))
 ·rw[IsMax.uniq hM' hM]at hle
  have ho:o=none:=by
   rcases hD with⟨_,z⟩|⟨_,_,z1,z2⟩|⟨_,_,z1,z2⟩|⟨_,_,_,_,z⟩|⟨e,_⟩
   ·exact absurd z hn
   ·exact absurd (e1 z1) z2
   ·exact absurd z2 (e2 z1)
   ·omega
   ·exact e
  subst ho
  exact r10 G2 _ _ _ _ _ _ _ _ _ l1 l none _ (Same.trans sG (Same.trans s1 s2)) (s2 _ _ (s1 _ _ h1)) hR (.inr (.inr (.inr (.inl ⟨rfl,sl,xs,rfl,hsl,hxs⟩))))
theorem pd_t8{f:Addr}{cdv:Value}{A:Around}{outer:List Env}{s:Shared}{H:Hp}{E:XK}{Q:VK}(T:Bi mg)(hr:Room 5 (A.deeper (PyProof.Rows.envOfC "_law_put_as_due" (defScope sPd) s.heap.objs.size f cdv)))(FDu:FnE P w K mg base "_law_due" nDu 2 spDu)(FRf:FnE P w K mg base "_law_refused" pRf 5 (spRfA cl))(FFf:FnE P w K mg base "_law_field_fits" nFf 4 spFf)
  {sf dx p qa:Addr}{at' n:Nat}{ts:List V}{es:List (Nat×Nat)}{M:Int}(hat:at'<4)(hs:H sf=some (.ins (cl at') dx []))(N:NetZ H p n qa ts es)(hM:IsMax (dl es n) M)(hM0:0<M)(hq:∀H',Same H H'->Q (.bl true) H'):
  ∃t,PSs (cxOf CX0 P w K mg base nPd "_law_put_as_due" (defScope sPd) f cdv A outer s H E).nox ((defBody sPd).drop 8) t/\∀(G:Hp)(u0 u4 u5:Option V)(kd:Int)(x:V)(m:Nat)(tl:List (Option Nat))(lt:Addr),Same H G->G lt=some (.lst (tv tl))->tl.length=es.length->m<=1000->Kn G x->((kd=1\/kd=2)↔NoT es tl x)->(¬NoT es tl x->∀(j:Nat) o,tl[j]?=some o->o=none)->
   t {nx:=fun _ H'=>Q .non H',rt:=Q} [u0,some (.ref sf),some (.int (at':Int)),some (.ref p),u4,u5,some (.int (nd at' M)),some (.int kd),some x,some (.int (m:Int)),some (.ref lt),none,none] G:=by
 have hr2:Room 2 _:=hr.mono (by omega)
 obtain⟨t9,h9,r9⟩:=pd_t9 (H:=H) (E:=E) (Q:=Q) (outer:=outer) T hr FRf FFf hat hs N hM hM0 hq
 refine⟨_,pss_cons (ps_set (i:=11) scPd.nd rfl (Or.inl rfl) (pe_fc FDu hr2 (pa_c (pv 3) (pa_c (pv 2) (pa_c (pe_or (pe_cmpR op_eq (pv 7) pe_int (nomark _)) (pe_one (pe_cmpR op_eq (pv 7) pe_int (nomark _)))) (pa_c (pv 9) (pa_c (pv 6) pa_nil))))))) h9,fun G u0 u4 u5 kd x m tl lt sG hlt htl hm hKn hiff hbare=>?_⟩
 have NG:=N.same sG
 refine⟨_,rfl,_,rfl,_,rfl,rfl,?_⟩
 have fin:∀(nt:Bool),(nt=true↔NoT es tl x)->spDu [.ref p,.int (at':Int),.bl nt,.int (m:Int),.int (nd at' M)] G (fun v H'=>gName 11 v [u0,some (.ref sf),some (.int (at':Int)),some (.ref p),u4,u5,some (.int (nd at' M)),some (.int kd),some x,some (.int (m:Int)),some (.ref lt),none,none] H' fun σ H'=>t9 {nx:=fun _ H'=>Q .non H',rt:=Q} σ H') E0:=by
  intro nt hnt
  refine⟨p,n,qa,ts,es,at',nt,_,_,rfl,NG,fun z G1 l s1 h1=>?_,fun z=>?_⟩
  ·exact r9 G1 _ _ _ _ _ x m tl lt l (some "tie") (Same.trans sG s1) (s1 _ _ hlt) htl hm (hKn.same s1) hbare h1 (.inl ⟨rfl,hnt.mp z⟩)
  ·have hn:¬NoT es tl x:=fun y=>by have:=hnt.mpr y;rw[z]at this;cases this
   refine⟨fun e1 e2 G1 l s1 h1=>?_,fun e1 e2 G1 l s1 h1=>?_,fun e1 e2=>⟨fun e3 G1 l s1 h1=>?_,fun e3 G1 l s1 h1=>?_⟩⟩
   ·exact r9 G1 _ _ _ _ _ x m tl lt l (some "ring") (Same.trans sG s1) (s1 _ _ hlt) htl hm (hKn.same s1) hbare h1 (.inr (.inl ⟨rfl,hn,e1,e2⟩))
   ·exact r9 G1 _ _ _ _ _ x m tl lt l (some "pair") (Same.trans sG s1) (s1 _ _ hlt) htl hm (hKn.same s1) hbare h1 (.inr (.inr (.inl ⟨rfl,hn,e1,e2⟩)))
   ·exact r9 G1 _ _ _ _ _ x m tl lt l (some "few") (Same.trans sG s1) (s1 _ _ hlt) htl hm (hKn.same s1) hbare h1 (.inr (.inr (.inr (.inl ⟨rfl,hn,e1,e2,e3⟩))))
   ·exact r9 G1 _ _ _ _ _ x m tl lt l none (Same.trans sG s1) (s1 _ _ hlt) htl hm (hKn.same s1) hbare h1 (.inr (.inr (.inr (.inr ⟨rfl,hn,e1,e2,e3⟩))))
 refine⟨_,rfl,?_⟩
 refine ite2 (fun z=>?_) (fun z=>?_)
 ·have hk:kd=1:=V.int.inj (of_decide_eq_true z)
  exact⟨_,rfl,_,rfl,fin true (by rw[<-hiff];exact⟨fun _=> .inl hk,fun _=>rfl⟩)⟩
 ·refine⟨_,rfl,rfl,_,rfl,_,rfl,?_⟩
  refine fin _ ?_
  rw[<-hiff]
  refine⟨fun y=> .inr (V.int.inj (of_decide_eq_true y)),fun y=>?_⟩
  rcases y with y|y
  ·exact absurd (decide_eq_true (by rw[y])) z
  ·exact decide_eq_true (by rw[y])
end
theorem max_le{es:List (Nat×Nat)}{n:Nat}{M:Int}(h:IsMax (dl es n) M):M<=(es.length:Int):=by
 rcases h with⟨_,rfl⟩|⟨h,_⟩
 ·omega
 ·obtain⟨k,_,rfl⟩:=List.mem_map.mp h
  have:=dg_le es es.length k
  omega
theorem tv_rep(k:Nat):List.replicate k V.non=tv (List.replicate k none):=by
 unfold tv
 rw[List.map_replicate]
 rfl
theorem tv_set35(tl:List (Option Nat))(k:Nat)(o:Option Nat):(tv tl).set k (tN o)=tv (tl.set k o):=by unfold tv;rw[List.map_set]
theorem same_two{H G:Hp}{l:Addr}{o1 o2:HO}(s:Same H G)(hl:G l=none):Same H (upd (upd G l o1) l o2):=fun b o e=>by
 have hb:=ne_of_none (s _ _ e) hl
 rw[upd_ne hb,upd_ne hb]
 exact s _ _ e
section
variable{P:Program}{w:World}{K:PySem.W.Frag}{mg:Str->Option Value}{base:Heap}{cl:Nat->Addr}
theorem pd_t7{f:Addr}{cdv:Value}{A:Around}{outer:List Env}{s:Shared}{H:Hp}{E:XK}{Q:VK}(T:Bi mg)(hr:Room 5 (A.deeper (PyProof.Rows.envOfC "_law_put_as_due" (defScope sPd) s.heap.objs.size f cdv)))(FD:FnE P w K mg base "_law_draw" ["_law_script","_law_k"] 1 (spDraw K))(FNo:FnE P w K mg base "_law_no_tie" ["_law_number","_law_ties"] 1 spNo)(FDu:FnE P w K mg base "_law_due" nDu 2 spDu)(FRf:FnE P w K mg base "_law_refused" pRf 5 (spRfA cl))(FFf:FnE P w K mg base "_law_field_fits" nFf 4 spFf)
  {a sf dx p qa:Addr}{ns:List Int}{k:Int}{at' n:Nat}{ts:List V}{es:List (Nat×Nat)}{M:Int}(hS:SqL K H a (ns.map V.int))(hl:ns.length<=63)(k0:0<=k)(k1:k<=100)(hat:at'<4)(hs:H sf=some (.ins (cl at') dx []))(N:NetZ H p n qa ts es)(hM:IsMax (dl es n) M)(hM0:0<M)(hq:∀H',Same H H'->Q (.bl true) H'):
  ∃t,PSs (cxOf CX0 P w K mg base nPd "_law_put_as_due" (defScope sPd) f cdv A outer s H E).nox ((defBody sPd).drop 7) t/\∀(G:Hp)(u5:Option V)(kd:Int)(ti m:Nat)(tl:List (Option Nat))(lt:Addr),Same H G->G lt=some (.lst (tv tl))->tl.length=es.length->m<=1000->ti<es.length->(kd=2->∃y,tl[ti]?=some (some y))->(kd≠2->∀(j:Nat) o,tl[j]?=some o->o=none)->
   t {nx:=fun _ H'=>Q .non H',rt:=Q} [some (.ref a),some (.ref sf),some (.int (at':Int)),some (.ref p),some (.int k),u5,some (.int (nd at' M)),some (.int kd),some (.int (ti:Int)),some (.int (m:Int)),some (.ref lt),none,none] G:=by
 have hr1:Room 1 _:=hr.mono (by omega)
 have h200:=N.l200
 have hlen:=N.len
 obtain⟨t8,h8,r8⟩:=pd_t8 (H:=H) (E:=E) (Q:=Q) (outer:=outer) T hr FDu FRf FFf hat hs N hM hM0 hq
 refine⟨_,pss_cons (ps_if (pt_cmpR op_eq (pv 7) pe_int (nomark _)) (pss_one (ps_set (i:=8) scPd.nd rfl (Or.inl rfl) (pe_fc FNo hr1 (pa_c (pe_fc FD hr1 (pa_c (pv 0) (pa_c (pe_op op_add pe_int (pv 4)) pa_nil))) (pa_c (pe_callB call_len_seq rfl T.len bLen (pa_c (pe_ix ix_tup (pv 3) pe_int (fun _ _=>rfl)) pa_nil)) pa_nil))))) pss_nil) h8,fun G u5 kd ti m tl lt sG hlt htl hm hti h2 hn2=>?_⟩
 refine⟨_,rfl,rfl,_,rfl,?_⟩
 refine ite2 (fun z=>?_) (fun z=>?_)
 ·have hk:kd=1:=V.int.inj (of_decide_eq_true z)
  refine⟨_,rfl,_,rfl,_,_,rfl,rfl,a,ns,_,rfl,sG.seq hS,hl,by omega,by omega,_,rfl,p,_,_,_,rfl,rfl,SqT.of (sG _ _ N.e1),rfl,qa,_,rfl,.inr (SqT.of (sG _ _ N.e2)),_,es.length,(by rw[hlen];rfl),by omega,fun G1 x s1 hKn hb=>?_⟩
  have hno:NoT es tl x:= .inl hb
  exact r8 G1 _ _ _ kd x m tl lt (Same.trans sG s1) (s1 _ _ hlt) htl hm hKn ⟨fun _=>hno,fun _=> .inl hk⟩ fun y=>absurd hno y
 ·have hk:kd≠1:=fun y=>z (decide_eq_true (by rw[y]))
  refine r8 G _ _ _ kd (.int (ti:Int)) m tl lt sG hlt htl hm (.int _) ⟨fun y=>?_,fun y=>?_⟩ (fun y=>?_)
  ·rcases y with y|y
   ·exact absurd y hk
   ·obtain⟨v,hv⟩:=h2 y
    exact .inr ⟨ti,v,rfl,hv⟩
  ·refine .inr ?_
   rcases y with y|⟨j,v,e,hv⟩
   ·have:bel (.int (ti:Int)) (es.length:Int)=true:=by
     show(decide (0<=(ti:Int))&&decide ((ti:Int)<(es.length:Int)))=true
     rw[decide_eq_true (p:=0<=(ti:Int)) (by omega),decide_eq_true (p:=(ti:Int)<(es.length:Int)) (by omega)]
     rfl
    rw[this]at y
    cases y
   ·by_cases h:kd=2
    ·exact h
    ·have:=hn2 h j _ hv
     cases this
  ·refine hn2 fun h=>y ?_
   obtain⟨v,hv⟩:=h2 h
   exact .inr ⟨ti,v,rfl,hv⟩
theorem pd_t6{f:Addr}{cdv:Value}{A:Around}{outer:List Env}{s:Shared}{H:Hp}{E:XK}{Q:VK}(T:Bi mg)(hr:Room 5 (A.deeper (PyProof.Rows.envOfC "_law_put_as_due" (defScope sPd) s.heap.objs.size f cdv)))(FD:FnE P w K mg base "_law_draw" ["_law_script","_law_k"] 1 (spDraw K))(FNo:FnE P w K mg base "_law_no_tie" ["_law_number","_law_ties"] 1 spNo)(FDu:FnE P w K mg base "_law_due" nDu 2 spDu)(FRf:FnE P w K mg base "_law_refused" pRf 5 (spRfA cl))(FFf:FnE P w K mg base "_law_field_fits" nFf 4 spFf)
  {a sf dx p qa:Addr}{ns:List Int}{k:Int}{at' n:Nat}{ts:List V}{es:List (Nat×Nat)}{M:Int}(hS:SqL K H a (ns.map V.int))(hl:ns.length<=63)(k0:0<=k)(k1:k<=100)(hat:at'<4)(hs:H sf=some (.ins (cl at') dx []))(N:NetZ H p n qa ts es)(hM:IsMax (dl es n) M)(hM0:0<M)(hq:∀H',Same H H'->Q (.bl true) H'):
  ∃t,PSs (cxOf CX0 P w K mg base nPd "_law_put_as_due" (defScope sPd) f cdv A outer s H E).nox ((defBody sPd).drop 6) t/\∀(G:Hp)(u5:Option V)(kd:Int)(ti m:Nat)(lt:Addr),Same H G->G lt=none->m<=1000->ti<es.length->
   t {nx:=fun _ H'=>Q .non H',rt:=Q} [some (.ref a),some (.ref sf),some (.int (at':Int)),some (.ref p),some (.int k),u5,some (.int (nd at' M)),some (.int kd),some (.int (ti:Int)),some (.int (m:Int)),some (.ref lt),none,none] (upd G lt (.lst (tv (List.replicate es.length none)))):=by
 obtain⟨t7,h7,r7⟩:=pd_t7 (H:=H) (E:=E) (Q:=Q) (outer:=outer) T hr FD FNo FDu FRf FFf hS hl k0 k1 hat hs N hM hM0 hq
 refine⟨_,pss_cons (ps_if (pt_cmpR op_eq (pv 7) pe_int (nomark _)) (pss_cons (ps_asg pe_int (pg_sub (pv 10) (pv 8) set_listN)) (pss_one (ps_set (i:=9) scPd.nd rfl (Or.inl rfl) (pe_callB (call_max2 rfl) rfl T.max bMax (pa_c pe_int (pa_c (pv 9) pa_nil)))))) pss_nil) h7,fun G u5 kd ti m lt sG hlt hm hti=>?_⟩
 have hln:(tv (List.replicate es.length none)).length=es.length:=by rw[<-tv_rep,List.length_replicate]
 refine⟨_,rfl,rfl,_,rfl,?_⟩
 refine ite2 (fun z=>?_) (fun z=>?_)
 ·have hk:kd=2:=V.int.inj (of_decide_eq_true z)
  refine⟨_,rfl,_,rfl,lt,_,ti,rfl,rfl,upd_same,by rw[hln];exact hti,_,rfl,_,_,rfl,?_⟩
  obtain⟨m',hm',hm1⟩:∃m':Nat,(if(m:Int)>1 then(m:Int)else 1)=(m':Int)/\m'<=1000:=by
   split
   ·exact⟨m,rfl,hm⟩
   ·exact⟨1,rfl,by decide⟩
  dsimp only[gName]
  rw[hm']
  refine r7 _ _ kd ti m' ((List.replicate es.length none).set ti (some 0)) lt (same_two sG hlt) ?_ (by rw[List.length_set,List.length_replicate]) hm1 hti (fun _=>⟨0,?_⟩) (fun y=>absurd hk y)
  ·rw[upd_same]
   congr 2
   exact tv_set35 _ ti (some 0)
  ·rw[List.getElem?_set_self (by rw[List.length_replicate];exact hti)]
 ·have hk:kd≠2:=fun y=>z (decide_eq_true (by rw[y]))
  refine r7 _ _ kd ti m _ lt (Same.trans sG (same_new hlt)) upd_same List.length_replicate hm hti (fun y=>absurd y hk) fun _ j o e=>?_
  exact List.eq_of_mem_replicate (List.mem_of_getElem? e)
def spPd(K:PySem.W.Frag)(cl:Nat->Addr):Sp:=fun vs H Q _=>∃(a sf dx p qa:Addr)(ns:List Int)(k:Int)(at' n:Nat)(ts:List V)(es:List (Nat×Nat)),vs=[.ref a,.ref sf,.int (at':Int),.ref p,.int k]/\SqL K H a (ns.map V.int)/\ns.length<=63/\0<=k/\k<=100/\at'<4/\H sf=some (.ins (cl at') dx [])/\NetZ H p n qa ts es/\0<n/\1<=es.length/\es.length<=12/\∀H',Same H H'->Q (.bl true) H'
theorem ok_pd{f:Addr}{fd:FuncData}(F:Fun K "_law_put_as_due" "_law_put_as_due" sPd f fd)(T:Bi mg)(FM:FnE P w K mg base "_law_most" ["_law_net_here"] 1 spLm)(FD:FnE P w K mg base "_law_draw" ["_law_script","_law_k"] 1 (spDraw K))(FNo:FnE P w K mg base "_law_no_tie" ["_law_number","_law_ties"] 1 spNo)(FDu:FnE P w K mg base "_law_due" nDu 2 spDu)(FRf:FnE P w K mg base "_law_refused" pRf 5 (spRfA cl))(FFf:FnE P w K mg base "_law_field_fits" nFf 4 spFf):
  FnOk P w K mg base CX0 6 f fd pPd (spPd K cl):=by
 refine F.ok (k:=5) scPd (fun vs H Q E h=>?_) (fun cdv A outer s H vs Q E hr h=>?_)
 ·obtain⟨a,sf,dx,p,qa,ns,k,at',n,ts,es,rfl,_⟩:=h
  rfl
 ·obtain⟨a,sf,dx,p,qa,ns,k,at',n,ts,es,rfl,hS,hl,k0,k1,hat,hs,N,hn,he1,he2,hq⟩:=h
  have hr1:Room 1 _:=hr.mono (by omega)
  have hlen:=N.len
  obtain⟨M,hM⟩:∃M,IsMax (dl es n) M:=by
   have hne:dl es n≠[]:=fun z=>by
    have:=congrArg List.length z
    unfold dl at this
    rw[List.length_map,List.length_range]at this
    exact absurd this (by show¬n=0;omega)
   have go:∀l:List Int,l≠[]->∃M,IsMax l M:=by
    intro l
    induction l with
    |nil=>exact fun z=>absurd rfl z
    |cons x r ih=>
     intro _
     cases r with
     |nil=>exact⟨x,.inr ⟨.head _,fun y hy=>by rw[List.mem_singleton.mp hy];exact Int.le_refl _⟩⟩
     |cons y r=>
      obtain⟨M,h⟩:=ih (by intro z;cases z)
      rcases h with⟨z,_⟩|⟨h1,h2⟩
      ·cases z
      ·by_cases h:x<=M
       ·refine⟨M,.inr ⟨.tail _ h1,fun u hu=>?_⟩⟩
        rcases List.mem_cons.mp hu with rfl|hu
        ·exact h
        ·exact h2 u hu
       ·refine⟨x,.inr ⟨.head _,fun u hu=>?_⟩⟩
        rcases List.mem_cons.mp hu with rfl|hu
        ·exact Int.le_refl _
        ·have:=h2 u hu
         omega
   exact go _ hne
  have hM0:=max_pos N.ok hM (by omega)
  have hM1:=max_le hM
  have hd0:=nd_pos (at':=at') hM0
  have hd1:=nd_le (at':=at') hM0 (by omega)
  obtain⟨t6,h6,r6⟩:=pd_t6 (H:=H) (E:=E) (Q:=Q) (outer:=outer) T hr FD FNo FDu FRf FFf hS hl k0 k1 hat hs N hM hM0 hq
  obtain⟨t2,h2,r2⟩:∃t,PSs (cxOf CX0 P w K mg base nPd "_law_put_as_due" (defScope sPd) f cdv A outer s H E).nox ((defBody sPd).drop 2) t/\∀(G:Hp)(u5:Option V),Same H G->
    t {nx:=fun _ H'=>Q .non H',rt:=Q} [some (.ref a),some (.ref sf),some (.int (at':Int)),some (.ref p),some (.int k),u5,some (.int (nd at' M)),none,none,none,none,none,none] G:=by
   refine⟨_,pss_cons (ps_set (i:=7) scPd.nd rfl (Or.inl rfl) (pe_op op_mod (pe_fc FD hr1 (pa_c (pv 0) (pa_c (pe_op op_add pe_int (pv 4)) pa_nil))) pe_int))
    (pss_cons (ps_set (i:=8) scPd.nd rfl (Or.inl rfl) (pe_op op_mod (pe_fc FD hr1 (pa_c (pv 0) (pa_c (pe_op op_add pe_int (pv 4)) pa_nil))) (pe_callB call_len_seq rfl T.len bLen (pa_c (pe_ix ix_tup (pv 3) pe_int (fun _ _=>rfl)) pa_nil))))
    (pss_cons (ps_set (i:=9) scPd.nd rfl (Or.inl rfl) (pe_op op_mod (pe_fc FD hr1 (pa_c (pv 0) (pa_c (pe_op op_add pe_int (pv 4)) pa_nil))) (pe_op op_add (pv 6) pe_int)))
    (pss_cons (ps_lcTF blkPd rfl (pe_ix ix_tup (pv 3) pe_int (fun _ _=>rfl)) (mono_ixT (mono_var 3) (mono_c _)) (fun C fp s H=>pg_name (i:=0) ndPd rfl (Or.inl rfl)) (fun C fp s H=>pts_nil) (fun C fp s H=>pe_non) (pg_name (i:=10) scPd.nd rfl (Or.inl rfl)) rfl)
    h6))),fun G u5 sG=>?_⟩
   refine⟨_,rfl,_,rfl,_,_,rfl,rfl,a,ns,_,rfl,sG.seq hS,hl,by omega,by omega,_,_,rfl,rfl,(by show(0:Int)<4;decide),?_⟩
   refine⟨_,rfl,_,rfl,_,_,rfl,rfl,a,ns,_,rfl,sG.seq hS,hl,by omega,by omega,_,rfl,p,_,_,_,rfl,rfl,SqT.of (sG _ _ N.e1),rfl,qa,_,rfl,.inr (SqT.of (sG _ _ N.e2)),_,_,rfl,rfl,(by show(0:Int)<(ts.length:Int);omega),?_⟩
   refine⟨_,rfl,_,rfl,_,_,rfl,rfl,a,ns,_,rfl,sG.seq hS,hl,by omega,by omega,_,rfl,_,_,rfl,rfl,_,_,rfl,rfl,(by show(0:Int)<nd at' M+3;omega),?_⟩
   have a1:=mod_lo (n:=draw ns (220+k)) (p:=(ts.length:Int)) (by omega)
   have a2:=mod_hi (n:=draw ns (220+k)) (p:=(ts.length:Int)) (by omega)
   have b1:=mod_lo (n:=draw ns (240+k)) (p:=nd at' M+3) (by omega)
   have b2:=mod_hi (n:=draw ns (240+k)) (p:=nd at' M+3) (by omega)
   obtain⟨ti,hti⟩:∃m:Nat,draw ns (220+k)%(ts.length:Int)=(m:Int):=⟨(draw ns (220+k)%(ts.length:Int)).toNat,by omega⟩
   obtain⟨m,hm⟩:∃m:Nat,draw ns (240+k)%(nd at' M+3)=(m:Int):=⟨(draw ns (240+k)%(nd at' M+3)).toNat,by omega⟩
   dsimp only[gName]
   rw[hti,hm]
   refine⟨_,rfl,p,_,_,_,rfl,rfl,SqT.of (sG _ _ N.e1),rfl,qa,_,rfl,SqT.of (sG _ _ N.e2),by omega,fun i ys σ G'=>G'=G/\ys=List.replicate i V.non/\∃v0,σ=[v0],⟨rfl,rfl,none,rfl⟩,fun i ys σ G' hi⟨e1,e2,_⟩=>⟨by rw[e1];exact SqT.of (sG _ _ N.e2),by rw[e2,List.length_replicate];exact Nat.le_refl _⟩,fun i x ys σ G' hx⟨e1,e2,v0,eσ⟩=>?_,fun ys σ G'⟨e1,e2,_⟩ l hl2=>?_⟩
   ·subst eσ
    dsimp only[gName,tTrue]
    exact iteT ⟨e1,by rw[e2,List.replicate_succ'],_,rfl⟩
   ·subst e1
    subst e2
    rw[tv_rep,hlen]
    exact r6 G' _ _ ti m l sG hl2 (by omega) (by omega)
  refine⟨_,pss_cons (ps_set (i:=5) scPd.nd rfl (Or.inl rfl) (pe_fc FM hr1 (pa_c (pv 3) pa_nil)))
   (pss_cons (ps_set (i:=6) scPd.nd rfl (Or.inl rfl) (pe_ix ix_list (pe_lstS (pa_c (pe_op op_sub (pe_op op_mul pe_int (pv 5)) pe_int) (pa_c (pv 5) (pa_c (pe_op op_add (pv 5) pe_int) (pa_c (pe_op op_add (pv 5) (pe_op op_fdiv (pv 5) pe_int)) pa_nil))))) (pv 2) (fun _ _=>rfl))) h2),?_⟩
  refine⟨_,rfl,p,n,qa,ts,es,rfl,N,hn,fun G M' sG hM'=>?_⟩
  cases IsMax.uniq hM hM'
  refine⟨_,rfl,_,_,rfl,rfl,.inl ⟨by decide,by decide⟩,_,_,rfl,rfl,_,rfl,_,rfl,_,_,rfl,rfl,_,rfl,_,rfl,_,_,rfl,rfl,⟨by decide,by decide⟩,_,_,rfl,rfl,rfl,fun l G1 s1 h1=>?_⟩
  exact⟨_,rfl,l,_,_,_,rfl,rfl,SqL.of h1,nd_at hM0 hat,r2 G1 _ (Same.trans sG s1)⟩
abbrev sAd:Stmt:=top 66
abbrev nAd:List Str:=["_law_way","_law_at","_law_net_here","_law_found"]
abbrev pAd:List Str:=["_law_way","_law_at","_law_net_here"]
theorem scAd:FnScope nAd pAd (defScope sAd):=⟨rfl,rfl,rfl,by decide+kernel,rfl,by decide+kernel,by decide+kernel⟩
def spAd(cl:Nat->Addr):Sp:=fun vs H Q _=>∃(sf dx p qa:Addr)(at' n:Nat)(ts:List V)(es:List (Nat×Nat)),vs=[.ref sf,.int (at':Int),.ref p]/\at'<4/\H sf=some (.ins (cl at') dx [])/\NetZ H p n qa ts es/\∀H',Same H H'->Q (.bl true) H'
theorem ok_ad{f:Addr}{fd:FuncData}(F:Fun K "_law_asked_as_due" "_law_asked_as_due" sAd f fd)(FDu:FnE P w K mg base "_law_due" nDu 2 spDu)(FAq:FnE P w K mg base "_law_asked" pAq 5 (spAqA cl))(FFf:FnE P w K mg base "_law_field_fits" nFf 4 spFf):FnOk P w K mg base CX0 6 f fd pAd (spAd cl):=by
 refine F.ok (k:=5) scAd (fun vs H Q E h=>?_) (fun cdv A outer s H vs Q E hr h=>?_)
 ·obtain⟨sf,dx,p,qa,at',n,ts,es,rfl,_⟩:=h
  rfl
 ·obtain⟨sf,dx,p,qa,at',n,ts,es,rfl,hat,hs,N,hq⟩:=h
  have hr2:Room 2 _:=hr.mono (by omega)
  have hr4:Room 4 _:=hr.mono (by omega)
  obtain⟨t2,h2,r2⟩:∃t,PSs (cxOf CX0 P w K mg base nAd "_law_asked_as_due" (defScope sAd) f cdv A outer s H E).nox ((defBody sAd).drop 2) t/\∀(G:Hp)(l:Addr)(o:Option Str)(v:V),Same H G->RfAt G l (oneW o) v->(o=none\/FitP G es n 0 o v)->
    t {nx:=fun _ H'=>Q .non H',rt:=Q} [some (.ref sf),some (.int (at':Int)),some (.ref p),some (.ref l)] G:=by
   refine⟨_,pss_one (ps_ret (pe_or (pe_cmpR (op_eqLE hr) (pe_ix ix_list (pv 3) pe_int (fun _ _=>rfl)) (pe_lstS pa_nil) rfl) (pe_one (pe_fc FFf hr4 (pa_c (pv 2) (pa_c (pv 3) (pa_c pe_int pa_nil))))))),fun G l o v sG hR hF=>?_⟩
   obtain⟨wl,hl,hw⟩:=hR
   refine⟨_,rfl,l,_,_,_,rfl,rfl,SqL.of hl,rfl,rfl,fun x1 G1 s1 hx1=>⟨wl,x1,_,rfl,rfl,SqL.of (s1 _ _ hw),SqL.of hx1,_,rfl,?_⟩⟩
   cases o with
   |none=>exact iteT (hq G1 (Same.trans sG s1))
   |some b=>
    rcases hF with hF|hF
    ·cases hF
    ·refine iteF ⟨_,rfl,_,rfl,p,l,wl,n,qa,ts,es,0,some b,v,rfl,N.same (Same.trans sG s1),s1 _ _ hl,s1 _ _ hw,?_,fun H' s'=>hq H' (Same.trans sG (Same.trans s1 s'))⟩
     rcases hF with⟨e,R,m,RA⟩|⟨e,PA'⟩|⟨e,ev⟩|⟨e,_⟩|⟨e,ev⟩
     ·exact .inl ⟨e,R,m,RA.same s1⟩
     ·exact .inr (.inl ⟨e,PA'.same s1⟩)
     ·exact .inr (.inr (.inl ⟨e,ev⟩))
     ·cases e
     ·exact .inr (.inr (.inr (.inr ⟨e,ev⟩)))
  obtain⟨t1,h1,r1⟩:∃t,PSs (cxOf CX0 P w K mg base nAd "_law_asked_as_due" (defScope sAd) f cdv A outer s H E).nox ((defBody sAd).drop 1) t/\∀(G:Hp)(l:Addr)(o:Option Str)(v:V),Same H G->RfAt G l (oneW o) v->(o=none\/FitP G es n 0 o v)->DueIs at' es False 0 0 o->
    t {nx:=fun _ H'=>Q .non H',rt:=Q} [some (.ref sf),some (.int (at':Int)),some (.ref p),some (.ref l)] G:=by
   refine⟨_,pss_cons (ps_if (pt_cmpR (op_neS hr) (pe_ix ix_list (pv 3) pe_int (fun _ _=>rfl)) (pe_fc FDu hr2 (pa_c (pv 2) (pa_c (pv 1) (pa_c pe_bl (pa_c pe_int (pa_c pe_int pa_nil)))))) (nomark _)) (pss_one (ps_ret pe_bl)) pss_nil) h2,fun G l o v sG hR hF hD=>?_⟩
   obtain⟨wl,hl,hw⟩:=hR
   have fit:∀G1,Same G G1->(o=none\/FitP G1 es n 0 o v):=fun G1 s1=>by
    rcases hF with hF|hF
    ·exact .inl hF
    ·refine .inr ?_
     rcases hF with⟨e,R,m,RA⟩|⟨e,PA'⟩|⟨e,ev⟩|⟨e,sl,xs,ev,hsl,hx⟩|⟨e,ev⟩
     ·exact .inl ⟨e,R,m,RA.same s1⟩
     ·exact .inr (.inl ⟨e,PA'.same s1⟩)
     ·exact .inr (.inr (.inl ⟨e,ev⟩))
     ·exact .inr (.inr (.inr (.inl ⟨e,sl,xs,ev,s1 _ _ hsl,hx⟩)))
     ·exact .inr (.inr (.inr (.inr ⟨e,ev⟩)))
   refine⟨_,rfl,l,_,_,_,rfl,rfl,SqL.of hl,rfl,_,rfl,_,rfl,p,n,qa,ts,es,at',false,_,_,rfl,N.same sG,(fun z=>by cases z),fun _=>⟨fun e1 e2 G1 l1 s1 hl1=>?_,fun e1 e2 G1 l1 s1 hl1=>?_,fun e1 e2=>⟨fun e3 G1 l1 s1 hl1=>absurd e3 (by decide),fun e3 G1 l1 s1 hl1=>?_⟩⟩⟩
   ·have ho:o=some "ring":=by
     rcases hD with⟨_,z⟩|⟨e,_⟩|⟨_,_,z,_⟩|⟨_,_,z,_⟩|⟨_,_,z,_⟩
     ·exact absurd z id
     ·exact e
     ·omega
     ·exact absurd (z e1) e2
     ·exact absurd (z e1) e2
    subst ho
    exact⟨wl,l1,1,rfl,rfl,by decide,sam_one (s1 _ _ hw) hl1,_,rfl,iteF (r2 G1 l _ v (Same.trans sG s1) ⟨wl,s1 _ _ hl,s1 _ _ hw⟩ (fit G1 s1))⟩
   ·have ho:o=some "pair":=by
     rcases hD with⟨_,z⟩|⟨_,_,z,_⟩|⟨e,_⟩|⟨_,_,_,z,_⟩|⟨_,_,_,z,_⟩
     ·exact absurd z id
     ·omega
     ·exact e
     ·exact absurd e2 (z e1)
     ·exact absurd e2 (z e1)
    subst ho
    exact⟨wl,l1,1,rfl,rfl,by decide,sam_one (s1 _ _ hw) hl1,_,rfl,iteF (r2 G1 l _ v (Same.trans sG s1) ⟨wl,s1 _ _ hl,s1 _ _ hw⟩ (fit G1 s1))⟩
   ·have ho:o=none:=by
     rcases hD with⟨_,z⟩|⟨_,_,z1,z2⟩|⟨_,_,z1,z2⟩|⟨_,_,_,_,z⟩|⟨e,_⟩
     ·exact absurd z id
     ·exact absurd (e1 z1) z2
     ·exact absurd z2 (e2 z1)
     ·omega
     ·exact e
    subst ho
    exact⟨wl,l1,1,rfl,rfl,by decide,sam_one (s1 _ _ hw) hl1,_,rfl,iteF (r2 G1 l _ v (Same.trans sG s1) ⟨wl,s1 _ _ hl,s1 _ _ hw⟩ (fit G1 s1))⟩
  refine⟨_,pss_cons (ps_set (i:=3) scAd.nd rfl (Or.inl rfl) (pe_fc FAq hr (pa_c (pv 0) (pa_c (pv 2) pa_nil)))) h1,?_⟩
  refine⟨_,rfl,_,rfl,at',hat,sf,p,n,qa,ts,es,dx,rfl,hs,N,fun e1 e2 G1 l v rg k s1 RA hR=>?_,fun e1 e2 G1 l v s1 PA' hR=>?_,fun e1 e2 G1 l s1 hR=>?_⟩
  ·exact r1 G1 l (some "ring") v s1 hR (.inr (.inl ⟨rfl,rg,k,RA⟩)) (.inr (.inl ⟨rfl,id,e1,e2⟩))
  ·exact r1 G1 l (some "pair") v s1 hR (.inr (.inr (.inl ⟨rfl,PA'⟩))) (.inr (.inr (.inl ⟨rfl,id,e1,e2⟩)))
  ·exact r1 G1 l none .non s1 hR (.inl rfl) (.inr (.inr (.inr (.inr ⟨rfl,id,e1,e2,Int.le_refl _⟩))))
abbrev sLaw:Stmt:=top 67
abbrev nLaw:List Str:=["_law_script","_law_nets","_law_ways_here","_law_k","_law_at","_law_net_here","_law_first"]
def spLaw(K:PySem.W.Frag):Sp:=fun vs H Q _=>∃(a:Addr)(ns:List Int),vs=[.ref a]/\SqL K H a (ns.map V.int)/\ns.length<=63/\∀H',Q (.bl true) H'
theorem scLaw:FnScope nLaw ["_law_script"] (defScope sLaw):=⟨rfl,rfl,rfl,by decide+kernel,rfl,by decide+kernel,by decide+kernel⟩
theorem same_made35{H:Hp}{x dx C:Addr}(nx:H x=none)(ndx:H dx=none):Same H (upd (upd H dx (.own x)) x (.ins C dx [])):=fun b o e=>by
 rw[upd_ne (ne_of_none e nx),upd_ne (ne_of_none e ndx)]
 exact e
def NetA(H:Hp)(v:V):Prop:=∃(p:Addr)(n:Nat)(q:Addr)(ts:List V)(es:List (Nat×Nat)),v= .ref p/\NetZ H p n q ts es/\0<n/\1<=es.length/\es.length<=12
theorem NetA.same{H H':Hp}{v:V}(h:NetA H v)(s:Same H H'):NetA H' v:=let⟨p,n,q,ts,es,e,N,r⟩:=h;⟨p,n,q,ts,es,e,N.same s,r⟩
theorem ok_law{f:Addr}{fd:FuncData}(F:Fun K "law" "law" sLaw f fd)(T:Bi mg)(hc:∀at',at'<4->Mk0 K (cl at')) (gW:mg "Way"=some (.ref (cl 0))) (gT:mg "TwoSided"=some (.ref (cl 1))) (gP:mg "Plain"=some (.ref (cl 2))) (gM:mg "Manifold"=some (.ref (cl 3)))
  (FD:FnE P w K mg base "_law_draw" ["_law_script","_law_k"] 1 (spDraw K)) (FN:FnE P w K mg base "_law_net" ["_law_script","_law_at"] 2 (spNet K)) (FRf:FnE P w K mg base "_law_refused" pRf 5 (spRfA cl)) (FAd:FnE P w K mg base "_law_asked_as_due" pAd 6 (spAd cl)) (FPd:FnE P w K mg base "_law_put_as_due" pPd 6 (spPd K cl)):FnOk P w K mg base CX0 7 f fd ["_law_script"] (spLaw K):=by
 refine F.ok (k:=6) scLaw (fun vs H Q E h=>?_) (fun cdv A outer s H vs Q E hr h=>?_)
 ·obtain⟨a,ns,rfl,_⟩:=h
  rfl
 ·obtain⟨a,ns,rfl,hS,hl,q⟩:=h
  have hr1:Room 1 _:=hr.mono (by omega)
  have hr2:Room 2 _:=hr.mono (by omega)
  have hr5:Room 5 _:=hr.mono (by omega)
  refine⟨_,pss_cons (ps_set (i:=1) scLaw.nd rfl (Or.inl rfl) (pe_lstS (pa_c (pe_fc FN hr2 (pa_c (pv 0) (pa_c pe_int pa_nil))) (pa_c (pe_fc FN hr2 (pa_c (pv 0) (pa_c pe_int pa_nil))) pa_nil))))
   (pss_cons (ps_set (i:=2) scLaw.nd rfl (Or.inl rfl) (pe_lstS (pa_c (pe_new (hc 0 (by decide)) rfl gW) (pa_c (pe_new (hc 1 (by decide)) rfl gT) (pa_c (pe_new (hc 2 (by decide)) rfl gP) (pa_c (pe_new (hc 3 (by decide)) rfl gM) pa_nil))))))
   (pss_cons (ps_for PassesOwn.never rfl (pi_range1 rfl T.range (pa_c pe_int pa_nil)) (pg_name (i:=3) scLaw.nd rfl (Or.inl rfl))
    (pss_cons (ps_set (i:=4) scLaw.nd rfl (Or.inl rfl) (pe_op op_mod (pe_op op_add (pv 3) (pe_fc FD hr1 (pa_c (pv 0) (pa_c pe_int pa_nil)))) pe_int))
    (pss_cons (ps_if (pt_cmpR (op_neS hr) (pe_ix ix_list (pe_fc FRf hr5 (pa_c (pe_ix ix_list (pv 2) (pv 4) (fun _ _=>rfl)) (pa_c (pe_tupS (pa_c pe_int (pa_c (pe_tupS pa_nil) pa_nil))) (pa_c (pe_tupS pa_nil) (pa_c pe_int (pa_c (pv 3) pa_nil)))))) pe_int (fun _ _=>rfl)) (pe_lstS (pa_c pe_str pa_nil)) rfl) (pss_one (ps_ret pe_bl)) pss_nil)
    (pss_cons (ps_set (i:=5) scLaw.nd rfl (Or.inl rfl) (pe_ix ix_list (pv 1) (pe_op op_mod (pe_op op_add (pe_op op_fdiv (pv 3) pe_int) (pe_fc FD hr1 (pa_c (pv 0) (pa_c pe_int pa_nil)))) pe_int) (fun _ _=>rfl)))
    (pss_cons (ps_set (i:=6) scLaw.nd rfl (Or.inl rfl) (pe_cmpR op_eq (pe_op op_mod (pe_fc FD hr1 (pa_c (pv 0) (pa_c (pe_op op_add pe_int (pv 3)) pa_nil))) pe_int) pe_int (nomark _)))
    (pss_cons (ps_if (PW.pt (pw_and (pt_val (pv 6)) (pw_and1 (pt_not (pt_val (pe_fc FAd hr (pa_c (pe_ix ix_list (pv 2) (pv 4) (fun _ _=>rfl)) (pa_c (pv 4) (pa_c (pv 5) pa_nil))))))))) (pss_one (ps_ret pe_bl)) pss_nil)
    (pss_cons (ps_if (pt_not (pt_val (pe_fc FPd hr (pa_c (pv 0) (pa_c (pe_ix ix_list (pv 2) (pv 4) (fun _ _=>rfl)) (pa_c (pv 4) (pa_c (pv 5) (pa_c (pv 3) pa_nil)))))))) (pss_one (ps_ret pe_bl)) pss_nil)
    (pss_one (ps_if (PW.pt (pw_and (pt_not (pt_val (pv 6))) (pw_and1 (pt_not (pt_val (pe_fc FAd hr (pa_c (pe_ix ix_list (pv 2) (pv 4) (fun _ _=>rfl)) (pa_c (pv 4) (pa_c (pv 5) pa_nil))))))))) (pss_one (ps_ret pe_bl)) pss_nil)))))))))
   (pss_one (ps_ret pe_bl)))),?_⟩
  refine⟨_,rfl,a,ns,8,rfl,hS,hl,by decide,by decide,fun I1 p1 n1 q1 ts1 es1 u1 N1 b1 _ c1 d1=>?_⟩
  refine⟨_,rfl,a,ns,40,rfl,u1.seq hS,hl,by decide,by decide,fun I2 p2 n2 q2 ts2 es2 u2 N2 b2 _ c2 d2=>?_⟩
  refine⟨rfl,fun ln I3 u3 hln=>?_⟩
  intro x0 d0 e0 m0 k0 x1 d1' e1 m1 k1 x2 d2' e2 m2 k2 x3 d3 e3 m3 k3
  have g0':=same_made35 (C:=cl 0) e0 m0
  have g1':=same_made35 (C:=cl 1) e1 m1
  have g2':=same_made35 (C:=cl 2) e2 m2
  have g3':=same_made35 (C:=cl 3) e3 m3
  refine⟨rfl,fun lw I4 u4 hlw=>?_⟩
  have sW:Same I3 I4:=Same.trans (Same.trans (Same.trans (Same.trans g0' g1') g2') g3') u4
  have sA:Same H I4:=Same.trans u1 (Same.trans u2 (Same.trans u3 sW))
  have hA1:NetA I4 (.ref p1):=⟨p1,n1,q1,ts1,es1,rfl,((N1.same u2).same u3).same sW,by omega,c1,d1⟩
  have hA2:NetA I4 (.ref p2):=⟨p2,n2,q2,ts2,es2,rfl,(N2.same u3).same sW,by omega,c2,d2⟩
  have hwy:∀at':Nat,at'<4->∃x dx,atI [V.ref x0,.ref x1,.ref x2,.ref x3] (at':Int)=some (.ref x)/\I4 x=some (.ins (cl at') dx []):=fun at' h=>by
   match at',h with
   |0,_=>exact⟨x0,d0,rfl,u4 _ _ (g3' _ _ (g2' _ _ (g1' _ _ upd_same)))⟩
   |1,_=>exact⟨x1,d1',rfl,u4 _ _ (g3' _ _ (g2' _ _ upd_same))⟩
   |2,_=>exact⟨x2,d2',rfl,u4 _ _ (g3' _ _ upd_same)⟩
   |3,_=>exact⟨x3,d3,rfl,u4 _ _ upd_same⟩
  have hlnI:=sW _ _ hln
  refine⟨12,rfl,by decide,by decide,for_range (lo:=0) (n:=12) (fun i σ H''=>(∃v3 v4 v5 v6,σ=[some (.ref a),some (.ref ln),some (.ref lw),v3,v4,v5,v6])/\Same I4 H'') ⟨⟨_,_,_,_,rfl⟩,Same.refl _⟩ (fun i σ G hi⟨⟨v3,v4,v5,v6,e⟩,sI⟩=>?_) (fun σ H'' _=>q _)⟩
  subst e
  have hsI:Same H G:=Same.trans sA sI
  have ez:(0:Int)+(i:Int)=(i:Int):=Int.zero_add _
  rw[ez]
  refine⟨_,rfl,_,rfl,a,ns,0,rfl,hsI.seq hS,hl,by decide,by decide,_,_,rfl,rfl,_,_,rfl,rfl,(by show(0:Int)<4;decide),?_⟩
  have a1:=mod_lo (n:=(i:Int)+draw ns 0) (p:=4) (by decide)
  have a2:=mod_hi (n:=(i:Int)+draw ns 0) (p:=4) (by decide)
  obtain⟨at',hat'⟩:∃m:Nat,((i:Int)+draw ns 0)%4=(m:Int):=⟨(((i:Int)+draw ns 0)%4).toNat,by omega⟩
  dsimp only[gName]
  rw[hat']
  have hat:at'<4:=by omega
  obtain⟨x,dx,hx,hxI⟩:=hwy at' hat
  have hno:NoT [] [] (.int 0):= .inl rfl
  refine⟨_,rfl,_,rfl,lw,_,_,_,rfl,rfl,SqL.of (sI _ _ hlw),hx,rfl,fun t1 G1 s1 h1=>⟨rfl,fun t2 G2 s2 h2=>⟨rfl,fun t3 G3 s3 h3=>⟨_,rfl,at',hat,x,t2,t3,0,t1,[],[],[],.int 0,i,dx,rfl,s3 _ _ (s2 _ _ (s1 _ _ (sI _ _ hxI))),⟨s3 _ _ h2,s3 _ _ (s2 _ _ h1),rfl,(fun j t z=>by cases z),by decide,by decide,(fun e z=>by cases z)⟩,h3,rfl,by omega,.int _,fun _ G4 l s4 hR=>?_,fun z=>absurd hno z⟩⟩⟩⟩
  obtain⟨wl,hl1,hw1⟩:=hR
  have s04:Same I4 G4:=Same.trans sI (Same.trans s1 (Same.trans s2 (Same.trans s3 s4)))
  refine⟨l,_,_,_,rfl,rfl,SqL.of hl1,rfl,rfl,fun y1 G5 s5 hy1=>⟨wl,y1,1,rfl,rfl,by decide,sam_one (o:=some "tie") (s5 _ _ hw1) hy1,_,rfl,iteF ?_⟩⟩
  have s05:=Same.trans s04 s5
  obtain⟨v,hv,NA⟩:∃v,atI [V.ref p1,.ref p2] (((i:Int)/4+draw ns 1)%2)=some v/\NetA I4 v:=by
   have b1:=mod_lo (n:=(i:Int)/4+draw ns 1) (p:=2) (by decide)
   have b2:=mod_hi (n:=(i:Int)/4+draw ns 1) (p:=2) (by decide)
   obtain⟨j,hj⟩:∃j,((i:Int)/4+draw ns 1)%2=j:=⟨_,rfl⟩
   rw[hj]at b1 b2⊢
   have:j=0\/j=1:=by omega
   rcases this with rfl|rfl
   ·exact⟨_,rfl,hA1⟩
   ·exact⟨_,rfl,hA2⟩
  refine⟨_,rfl,_,rfl,_,_,rfl,rfl,⟨by decide,by decide⟩,_,rfl,a,ns,1,rfl,(Same.trans sA s05).seq hS,hl,by decide,by decide,_,_,rfl,rfl,_,_,rfl,rfl,(by show(0:Int)<2;decide),ln,_,_,v,rfl,rfl,SqL.of (s05 _ _ hlnI),hv,?_⟩
  obtain⟨p,n,qa,ts,es,rfl,N,hn,he1,he2⟩:=NA
  refine⟨_,rfl,_,rfl,_,_,rfl,rfl,a,ns,_,rfl,(Same.trans sA s05).seq hS,hl,by omega,by omega,_,_,rfl,rfl,(by show(0:Int)<2;decide),rfl,?_⟩
  obtain⟨fb,hfb⟩:∃b:Bool,decide (V.int (draw ns (260+(i:Int))%2)=V.int 0)=b:=⟨_,rfl⟩
  dsimp only[gName]
  rw[hfb]
  cases fb with
  |true=>
   refine⟨_,rfl,_,rfl,iteT ⟨_,rfl,_,rfl,lw,_,_,_,rfl,rfl,SqL.of (s05 _ _ hlw),hx,_,rfl,_,rfl,x,dx,p,qa,at',n,ts,es,rfl,hat,s05 _ _ hxI,N.same s05,fun G6 s6=>⟨_,rfl,iteF ?_⟩⟩⟩
   have s06:=Same.trans s05 s6
   refine⟨_,rfl,_,rfl,_,rfl,lw,_,_,_,rfl,rfl,SqL.of (s06 _ _ hlw),hx,_,rfl,_,rfl,_,rfl,a,x,dx,p,qa,ns,(i:Int),at',n,ts,es,rfl,(Same.trans sA s06).seq hS,hl,by omega,by omega,hat,s06 _ _ hxI,N.same s06,hn,he1,he2,fun G7 s7=>⟨_,rfl,iteF ?_⟩⟩
   exact⟨_,rfl,_,rfl,iteF ⟨⟨_,_,_,_,rfl⟩,Same.trans s06 s7⟩⟩
  |false=>
   refine⟨_,rfl,_,rfl,iteF ?_⟩
   refine⟨_,rfl,_,rfl,_,rfl,lw,_,_,_,rfl,rfl,SqL.of (s05 _ _ hlw),hx,_,rfl,_,rfl,_,rfl,a,x,dx,p,qa,ns,(i:Int),at',n,ts,es,rfl,(Same.trans sA s05).seq hS,hl,by omega,by omega,hat,s05 _ _ hxI,N.same s05,hn,he1,he2,fun G6 s6=>⟨_,rfl,iteF ?_⟩⟩
   have s06:=Same.trans s05 s6
   refine⟨_,rfl,_,rfl,iteT ⟨_,rfl,_,rfl,lw,_,_,_,rfl,rfl,SqL.of (s06 _ _ hlw),hx,_,rfl,_,rfl,x,dx,p,qa,at',n,ts,es,rfl,hat,s06 _ _ hxI,N.same s06,fun G7 s7=>⟨_,rfl,iteF ?_⟩⟩⟩
   exact⟨⟨_,_,_,_,rfl⟩,Same.trans s06 s7⟩
end
end My
namespace My
def cl4(a b c d:PySem.Addr):Nat->PySem.Addr
 |0=>a
 |1=>b
 |2=>c
 |_=>d
theorem four{S:Nat->Prop}(h0:S 0)(h1:S 1)(h2:S 2)(h3:S 3)(k:Nat)(h:k<4):S k:=by
 match k,h with
 |0,_=>exact h0
 |1,_=>exact h1
 |2,_=>exact h2
 |3,_=>exact h3
end My
namespace My
open PySem L2
theorem all_mk{l:PySem.W.OpenLaw}{w:World}{K:PySem.W.Frag}{h:Heap}{mg:Str->Option Value}{fa cW cT cP cM f1 f2 f3 f4 f5 f6 f7 f8 f9 f10 f11 f12 f13 f14 f15 f16 f17 f18 f19 f20 f21 f22 f23 f24 f25 f26 f27 f28 f29 f30 fNW fAW fPW fNT fAT fPT fNP fAP fPP fNM fAM fPM:Addr}(X:K.In h)(G:h.Ns mainGlobals mg)(hfa:mg "law"=some (.ref fa))
  {cTE cN cR cQ cF cX1 cX2 cX3 cX4 cX5 cX6 cX7 fIR fIQ fIF:Addr}{odIR anIR odIQ anIQ odIF anIF:Option Addr}{slIR slIQ slIF:Array (Option Value)}{ocIR kVIR dcIR pmIR cdIR ctIR ocIQ kVIQ dcIQ pmIQ cdIQ ctIQ ocIF kVIF dcIF pmIF cdIF ctIF:Value}{od1 an1 od2 an2 od3 an3 od4 an4 od5 an5 od6 an6 od7 an7 od8 an8 od9 an9 od10 an10 od11 an11 od12 an12 od13 an13 od14 an14 od15 an15 od16 an16 od17 an17 od18 an18 od19 an19 od20 an20 od21 an21 od22 an22 od23 an23 od24 an24 od25 an25 od26 an26 od27 an27 od28 an28 od29 an29 od30 an30 odNW anNW odAW anAW odPW anPW odNT anNT odAT anAT odPT anPT odNP anNP odAP anAP odPP anPP odNM anNM odAM anAM odPM anPM:Option Addr}{sl1 sl2 sl3 sl4 sl5 sl6 sl7 sl8 sl9 sl10 sl11 sl12 sl13 sl14 sl15 sl16 sl17 sl18 sl19 sl20 sl21 sl22 sl23 sl24 sl25 sl26 sl27 sl28 sl29 sl30 slNW slAW slPW slNT slAT slPT slNP slAP slPP slNM slAM slPM:Array (Option Value)}{oc1 kV1 dc1 pm1 cd1 ct1 oc2 kV2 dc2 pm2 cd2 ct2 oc3 kV3 dc3 pm3 cd3 ct3 oc4 kV4 dc4 pm4 cd4 ct4 oc5 kV5 dc5 pm5 cd5 ct5 oc6 kV6 dc6 pm6 cd6 ct6 oc7 kV7 dc7 pm7 cd7 ct7 oc8 kV8 dc8 pm8 cd8 ct8 oc9 kV9 dc9 pm9 cd9 ct9 oc10 kV10 dc10 pm10 cd10 ct10 oc11 kV11 dc11 pm11 cd11 ct11 oc12 kV12 dc12 pm12 cd12 ct12 oc13 kV13 dc13 pm13 cd13 ct13 oc14 kV14 dc14 pm14 cd14 ct14 oc15 kV15 dc15 pm15 cd15 ct15 oc16 kV16 dc16 pm16 cd16 ct16 oc17 kV17 dc17 pm17 cd17 ct17 oc18 kV18 dc18 pm18 cd18 ct18 oc19 kV19 dc19 pm19 cd19 ct19 oc20 kV20 dc20 pm20 cd20 ct20 oc21 kV21 dc21 pm21 cd21 ct21 oc22 kV22 dc22 pm22 cd22 ct22 oc23 kV23 dc23 pm23 cd23 ct23 oc24 kV24 dc24 pm24 cd24 ct24 oc25 kV25 dc25 pm25 cd25 ct25 oc26 kV26 dc26 pm26 cd26 ct26 oc27 kV27 dc27 pm27 cd27 ct27 oc28 kV28 dc28 pm28 cd28 ct28 oc29 kV29 dc29 pm29 cd29 ct29 oc30 kV30 dc30 pm30 cd30 ct30 ocNW kVNW dcNW pmNW cdNW ctNW ocAW kVAW dcAW pmAW cdAW ctAW ocPW kVPW dcPW pmPW cdPW ctPW ocNT kVNT dcNT pmNT cdNT ctNT ocAT kVAT dcAT pmAT cdAT ctAT ocPT kVPT dcPT pmPT cdPT ctPT ocNP kVNP dcNP pmNP cdNP ctNP ocAP kVAP dcAP pmAP cdAP ctAP ocPP kVPP dcPP pmPP cdPP ctPP ocNM kVNM dcNM pmNM cdNM ctNM ocAM kVAM dcAM pmAM cdAM ctAM ocPM kVPM dcPM pmPM cdPM ctPM:Value}
  (a1:PySem.W.nsIn K mainGlobals "is_number"=some (some (.ref f1)))
  (l1:K.lookup f1=some ⟨oc1,od1,.func (PySem.W.fnOf "is_number" "is_number" (defArgs sNum) (defBody sNum) (defScope sNum) .none kV1 dc1 pm1 an1 cd1 ct1),sl1⟩)
  (c1':PySem.W.codeIn K cd1 "is_number"=true)
  (k1:PySem.W.keepIn K (.ref f1)=true)
  (a2:PySem.W.nsIn K mainGlobals "is_below"=some (some (.ref f2)))
  (l2:K.lookup f2=some ⟨oc2,od2,.func (PySem.W.fnOf "is_below" "is_below" (defArgs sBel) (defBody sBel) (defScope sBel) .none kV2 dc2 pm2 an2 cd2 ct2),sl2⟩)
  (c2':PySem.W.codeIn K cd2 "is_below"=true)
  (k2:PySem.W.keepIn K (.ref f2)=true)
  (a3:PySem.W.nsIn K mainGlobals "most_of"=some (some (.ref f3)))
  (l3:K.lookup f3=some ⟨oc3,od3,.func (PySem.W.fnOf "most_of" "most_of" (defArgs sMo) (defBody sMo) (defScope sMo) .none kV3 dc3 pm3 an3 cd3 ct3),sl3⟩)
  (c3':PySem.W.codeIn K cd3 "most_of"=true)
  (k3:PySem.W.keepIn K (.ref f3)=true)
  (a4:PySem.W.nsIn K mainGlobals "tints_at"=some (some (.ref f4)))
  (l4:K.lookup f4=some ⟨oc4,od4,.func (PySem.W.fnOf "tints_at" "tints_at" (defArgs sTa) (defBody sTa) (defScope sTa) .none kV4 dc4 pm4 an4 cd4 ct4),sl4⟩)
  (c4':PySem.W.codeIn K cd4 "tints_at"=true)
  (k4:PySem.W.keepIn K (.ref f4)=true)
  (a5:PySem.W.nsIn K mainGlobals "free_tints"=some (some (.ref f5)))
  (l5:K.lookup f5=some ⟨oc5,od5,.func (PySem.W.fnOf "free_tints" "free_tints" (defArgs sFt) (defBody sFt) (defScope sFt) .none kV5 dc5 pm5 an5 cd5 ct5),sl5⟩)
  (c5':PySem.W.codeIn K cd5 "free_tints"=true)
  (k5:PySem.W.keepIn K (.ref f5)=true)
  (a6:PySem.W.nsIn K mainGlobals "free_at_both"=some (some (.ref f6)))
  (l6:K.lookup f6=some ⟨oc6,od6,.func (PySem.W.fnOf "free_at_both" "free_at_both" (defArgs sFb) (defBody sFb) (defScope sFb) .none kV6 dc6 pm6 an6 cd6 ct6),sl6⟩)
  (c6':PySem.W.codeIn K cd6 "free_at_both"=true)
  (k6:PySem.W.keepIn K (.ref f6)=true)
  (a7:PySem.W.nsIn K mainGlobals "like_pair"=some (some (.ref f7)))
  (l7:K.lookup f7=some ⟨oc7,od7,.func (PySem.W.fnOf "like_pair" "like_pair" (defArgs sLp) (defBody sLp) (defScope sLp) .none kV7 dc7 pm7 an7 cd7 ct7),sl7⟩)
  (c7':PySem.W.codeIn K cd7 "like_pair"=true)
  (k7:PySem.W.keepIn K (.ref f7)=true)
  (a8:PySem.W.nsIn K mainGlobals "neighbours"=some (some (.ref f8)))
  (l8:K.lookup f8=some ⟨oc8,od8,.func (PySem.W.fnOf "neighbours" "neighbours" (defArgs Sd.sNb) (defBody Sd.sNb) (defScope Sd.sNb) .none kV8 dc8 pm8 an8 cd8 ct8),sl8⟩)
  (c8':PySem.W.codeIn K cd8 "neighbours"=true)
  (k8:PySem.W.keepIn K (.ref f8)=true)
  (a9:PySem.W.nsIn K mainGlobals "spread"=some (some (.ref f9)))
  (l9:K.lookup f9=some ⟨oc9,od9,.func (PySem.W.fnOf "spread" "spread" (defArgs Sd.sSpr) (defBody Sd.sSpr) (defScope Sd.sSpr) .none kV9 dc9 pm9 an9 cd9 ct9),sl9⟩)
  (c9':PySem.W.codeIn K cd9 "spread"=true)
  (k9:PySem.W.keepIn K (.ref f9)=true)
  (a10:PySem.W.nsIn K mainGlobals "closed"=some (some (.ref f10)))
  (l10:K.lookup f10=some ⟨oc10,od10,.func (PySem.W.fnOf "closed" "closed" (defArgs Sd.sCl) (defBody Sd.sCl) (defScope Sd.sCl) .none kV10 dc10 pm10 an10 cd10 ct10),sl10⟩)
  (c10':PySem.W.codeIn K cd10 "closed"=true)
  (k10:PySem.W.keepIn K (.ref f10)=true)
  (a11:PySem.W.nsIn K mainGlobals "sides"=some (some (.ref f11)))
  (l11:K.lookup f11=some ⟨oc11,od11,.func (PySem.W.fnOf "sides" "sides" (defArgs Sd.sSd) (defBody Sd.sSd) (defScope Sd.sSd) .none kV11 dc11 pm11 an11 cd11 ct11),sl11⟩)
  (c11':PySem.W.codeIn K cd11 "sides"=true)
  (k11:PySem.W.keepIn K (.ref f11)=true)
  (a12:PySem.W.nsIn K mainGlobals "_law_draw"=some (some (.ref f12)))
  (l12:K.lookup f12=some ⟨oc12,od12,.func (PySem.W.fnOf "_law_draw" "_law_draw" (defArgs sDraw) (defBody sDraw) (defScope sDraw) .none kV12 dc12 pm12 an12 cd12 ct12),sl12⟩)
  (c12':PySem.W.codeIn K cd12 "_law_draw"=true)
  (k12:PySem.W.keepIn K (.ref f12)=true)
  (a13:PySem.W.nsIn K mainGlobals "_law_tie"=some (some (.ref f13)))
  (l13:K.lookup f13=some ⟨oc13,od13,.func (PySem.W.fnOf "_law_tie" "_law_tie" (defArgs sTie) (defBody sTie) (defScope sTie) .none kV13 dc13 pm13 an13 cd13 ct13),sl13⟩)
  (c13':PySem.W.codeIn K cd13 "_law_tie"=true)
  (k13:PySem.W.keepIn K (.ref f13)=true)
  (a14:PySem.W.nsIn K mainGlobals "_law_net"=some (some (.ref f14)))
  (l14:K.lookup f14=some ⟨oc14,od14,.func (PySem.W.fnOf "_law_net" "_law_net" (defArgs sNet) (defBody sNet) (defScope sNet) .none kV14 dc14 pm14 an14 cd14 ct14),sl14⟩)
  (c14':PySem.W.codeIn K cd14 "_law_net"=true)
  (k14:PySem.W.keepIn K (.ref f14)=true)
  (a15:PySem.W.nsIn K mainGlobals "_law_whole"=some (some (.ref f15)))
  (l15:K.lookup f15=some ⟨oc15,od15,.func (PySem.W.fnOf "_law_whole" "_law_whole" (defArgs sWh) (defBody sWh) (defScope sWh) .none kV15 dc15 pm15 an15 cd15 ct15),sl15⟩)
  (c15':PySem.W.codeIn K cd15 "_law_whole"=true)
  (k15:PySem.W.keepIn K (.ref f15)=true)
  (a16:PySem.W.nsIn K mainGlobals "_law_numbers"=some (some (.ref f16)))
  (l16:K.lookup f16=some ⟨oc16,od16,.func (PySem.W.fnOf "_law_numbers" "_law_numbers" (defArgs sNu) (defBody sNu) (defScope sNu) .none kV16 dc16 pm16 an16 cd16 ct16),sl16⟩)
  (c16':PySem.W.codeIn K cd16 "_law_numbers"=true)
  (k16:PySem.W.keepIn K (.ref f16)=true)
  (a17:PySem.W.nsIn K mainGlobals "_law_two_sided"=some (some (.ref f17)))
  (l17:K.lookup f17=some ⟨oc17,od17,.func (PySem.W.fnOf "_law_two_sided" "_law_two_sided" (defArgs sTs) (defBody sTs) (defScope sTs) .none kV17 dc17 pm17 an17 cd17 ct17),sl17⟩)
  (c17':PySem.W.codeIn K cd17 "_law_two_sided"=true)
  (k17:PySem.W.keepIn K (.ref f17)=true)
  (a18:PySem.W.nsIn K mainGlobals "_law_twins"=some (some (.ref f18)))
  (l18:K.lookup f18=some ⟨oc18,od18,.func (PySem.W.fnOf "_law_twins" "_law_twins" (defArgs sTw) (defBody sTw) (defScope sTw) .none kV18 dc18 pm18 an18 cd18 ct18),sl18⟩)
  (c18':PySem.W.codeIn K cd18 "_law_twins"=true)
  (k18:PySem.W.keepIn K (.ref f18)=true)
  (a19:PySem.W.nsIn K mainGlobals "_law_most"=some (some (.ref f19)))
  (l19:K.lookup f19=some ⟨oc19,od19,.func (PySem.W.fnOf "_law_most" "_law_most" (defArgs sLm) (defBody sLm) (defScope sLm) .none kV19 dc19 pm19 an19 cd19 ct19),sl19⟩)
  (c19':PySem.W.codeIn K cd19 "_law_most"=true)
  (k19:PySem.W.keepIn K (.ref f19)=true)
  (a20:PySem.W.nsIn K mainGlobals "_law_is_ring"=some (some (.ref f20)))
  (l20:K.lookup f20=some ⟨oc20,od20,.func (PySem.W.fnOf "_law_is_ring" "_law_is_ring" (defArgs sRi) (defBody sRi) (defScope sRi) .none kV20 dc20 pm20 an20 cd20 ct20),sl20⟩)
  (c20':PySem.W.codeIn K cd20 "_law_is_ring"=true)
  (k20:PySem.W.keepIn K (.ref f20)=true)
  (a21:PySem.W.nsIn K mainGlobals "_law_is_pair"=some (some (.ref f21)))
  (l21:K.lookup f21=some ⟨oc21,od21,.func (PySem.W.fnOf "_law_is_pair" "_law_is_pair" (defArgs sPr) (defBody sPr) (defScope sPr) .none kV21 dc21 pm21 an21 cd21 ct21),sl21⟩)
  (c21':PySem.W.codeIn K cd21 "_law_is_pair"=true)
  (k21:PySem.W.keepIn K (.ref f21)=true)
  (a22:PySem.W.nsIn K mainGlobals "_law_word"=some (some (.ref f22)))
  (l22:K.lookup f22=some ⟨oc22,od22,.func (PySem.W.fnOf "_law_word" "_law_word" (defArgs sWd) (defBody sWd) (defScope sWd) .none kV22 dc22 pm22 an22 cd22 ct22),sl22⟩)
  (c22':PySem.W.codeIn K cd22 "_law_word"=true)
  (k22:PySem.W.keepIn K (.ref f22)=true)
  (a23:PySem.W.nsIn K mainGlobals "_law_refused"=some (some (.ref f23)))
  (l23:K.lookup f23=some ⟨oc23,od23,.func (PySem.W.fnOf "_law_refused" "_law_refused" (defArgs sRf) (defBody sRf) (defScope sRf) .none kV23 dc23 pm23 an23 cd23 ct23),sl23⟩)
  (c23':PySem.W.codeIn K cd23 "_law_refused"=true)
  (k23:PySem.W.keepIn K (.ref f23)=true)
  (a24:PySem.W.nsIn K mainGlobals "_law_asked"=some (some (.ref f24)))
  (l24:K.lookup f24=some ⟨oc24,od24,.func (PySem.W.fnOf "_law_asked" "_law_asked" (defArgs sAq) (defBody sAq) (defScope sAq) .none kV24 dc24 pm24 an24 cd24 ct24),sl24⟩)
  (c24':PySem.W.codeIn K cd24 "_law_asked"=true)
  (k24:PySem.W.keepIn K (.ref f24)=true)
  (a25:PySem.W.nsIn K mainGlobals "_law_due"=some (some (.ref f25)))
  (l25:K.lookup f25=some ⟨oc25,od25,.func (PySem.W.fnOf "_law_due" "_law_due" (defArgs sDu) (defBody sDu) (defScope sDu) .none kV25 dc25 pm25 an25 cd25 ct25),sl25⟩)
  (c25':PySem.W.codeIn K cd25 "_law_due"=true)
  (k25:PySem.W.keepIn K (.ref f25)=true)
  (a26:PySem.W.nsIn K mainGlobals "_law_field_fits"=some (some (.ref f26)))
  (l26:K.lookup f26=some ⟨oc26,od26,.func (PySem.W.fnOf "_law_field_fits" "_law_field_fits" (defArgs sFf) (defBody sFf) (defScope sFf) .none kV26 dc26 pm26 an26 cd26 ct26),sl26⟩)
  (c26':PySem.W.codeIn K cd26 "_law_field_fits"=true)
  (k26:PySem.W.keepIn K (.ref f26)=true)
  (a27:PySem.W.nsIn K mainGlobals "_law_no_tie"=some (some (.ref f27)))
  (l27:K.lookup f27=some ⟨oc27,od27,.func (PySem.W.fnOf "_law_no_tie" "_law_no_tie" (defArgs sNo) (defBody sNo) (defScope sNo) .none kV27 dc27 pm27 an27 cd27 ct27),sl27⟩)
  (c27':PySem.W.codeIn K cd27 "_law_no_tie"=true)
  (k27:PySem.W.keepIn K (.ref f27)=true)
  (a28:PySem.W.nsIn K mainGlobals "_law_put_as_due"=some (some (.ref f28)))
  (l28:K.lookup f28=some ⟨oc28,od28,.func (PySem.W.fnOf "_law_put_as_due" "_law_put_as_due" (defArgs sPd) (defBody sPd) (defScope sPd) .none kV28 dc28 pm28 an28 cd28 ct28),sl28⟩)
  (c28':PySem.W.codeIn K cd28 "_law_put_as_due"=true)
  (k28:PySem.W.keepIn K (.ref f28)=true)
  (a29:PySem.W.nsIn K mainGlobals "_law_asked_as_due"=some (some (.ref f29)))
  (l29:K.lookup f29=some ⟨oc29,od29,.func (PySem.W.fnOf "_law_asked_as_due" "_law_asked_as_due" (defArgs sAd) (defBody sAd) (defScope sAd) .none kV29 dc29 pm29 an29 cd29 ct29),sl29⟩)
  (c29':PySem.W.codeIn K cd29 "_law_asked_as_due"=true)
  (k29:PySem.W.keepIn K (.ref f29)=true)
  (a30:PySem.W.nsIn K mainGlobals "law"=some (some (.ref f30)))
  (l30:K.lookup f30=some ⟨oc30,od30,.func (PySem.W.fnOf "law" "law" (defArgs sLaw) (defBody sLaw) (defScope sLaw) .none kV30 dc30 pm30 an30 cd30 ct30),sl30⟩)
  (c30':PySem.W.codeIn K cd30 "law"=true)
  (k30:PySem.W.keepIn K (.ref f30)=true)
  (aW:PySem.W.nsIn K mainGlobals "Way"=some (some (.ref cW)))
  (mNW:PySem.W.findIn K (.ref cW) "needed"=some (some (.ref fNW)))
  (iNW:PySem.W.isFn K (.ref fNW)=true)
  (lNW:K.lookup fNW=some ⟨ocNW,odNW,.func (PySem.W.fnOf "needed" "Way.needed" (defArgs sW) (defBody sW) (defScope sW) .none kVNW dcNW pmNW anNW cdNW ctNW),slNW⟩)
  (cNW':PySem.W.codeIn K cdNW "Way.needed"=true)
  (kNW:PySem.W.keepIn K (.ref fNW)=true)
  (mAW:PySem.W.findIn K (.ref cW) "asked"=some (some (.ref fAW)))
  (iAW:PySem.W.isFn K (.ref fAW)=true)
  (lAW:K.lookup fAW=some ⟨ocAW,odAW,.func (PySem.W.fnOf "asked" "Way.asked" (defArgs sAkW) (defBody sAkW) (defScope sAkW) .none kVAW dcAW pmAW anAW cdAW ctAW),slAW⟩)
  (cAW':PySem.W.codeIn K cdAW "Way.asked"=true)
  (kAW:PySem.W.keepIn K (.ref fAW)=true)
  (mPW:PySem.W.findIn K (.ref cW) "put"=some (some (.ref fPW)))
  (iPW:PySem.W.isFn K (.ref fPW)=true)
  (lPW:K.lookup fPW=some ⟨ocPW,odPW,.func (PySem.W.fnOf "put" "Way.put" (defArgs sPut) (defBody sPut) (defScope sPut) .none kVPW dcPW pmPW anPW cdPW ctPW),slPW⟩)
  (cPW':PySem.W.codeIn K cdPW "Way.put"=true)
  (kPW:PySem.W.keepIn K (.ref fPW)=true)
  (pgW:PySem.W.plainGet K cW Str.empty=true)
  (hdW:PySem.W.hasDictIn K cW=true)
  (poW:PySem.W.plainOver K cW=true)
  (saW:PySem.W.findIn K (.ref cW) "__setattr__"=some (some (.builtin "object.__setattr__")))
  (mkW:PySem.W.makesIn K cW=true)
  (inW:PySem.W.findIn K (.ref cW) "__init__"=some (some (.builtin "object.__init__")))
  (kcW:PySem.W.keepIn K (.ref cW)=true)
  (aT:PySem.W.nsIn K mainGlobals "TwoSided"=some (some (.ref cT)))
  (mNT:PySem.W.findIn K (.ref cT) "needed"=some (some (.ref fNT)))
  (iNT:PySem.W.isFn K (.ref fNT)=true)
  (lNT:K.lookup fNT=some ⟨ocNT,odNT,.func (PySem.W.fnOf "needed" "TwoSided.needed" (defArgs sT) (defBody sT) (defScope sT) .none kVNT dcNT pmNT anNT cdNT ctNT),slNT⟩)
  (cNT':PySem.W.codeIn K cdNT "TwoSided.needed"=true)
  (kNT:PySem.W.keepIn K (.ref fNT)=true)
  (mAT:PySem.W.findIn K (.ref cT) "asked"=some (some (.ref fAT)))
  (iAT:PySem.W.isFn K (.ref fAT)=true)
  (lAT:K.lookup fAT=some ⟨ocAT,odAT,.func (PySem.W.fnOf "asked" "TwoSided.asked" (defArgs sAkT) (defBody sAkT) (defScope sAkT) .none kVAT dcAT pmAT anAT cdAT ctAT),slAT⟩)
  (cAT':PySem.W.codeIn K cdAT "TwoSided.asked"=true)
  (kAT:PySem.W.keepIn K (.ref fAT)=true)
  (mPT:PySem.W.findIn K (.ref cT) "put"=some (some (.ref fPT)))
  (iPT:PySem.W.isFn K (.ref fPT)=true)
  (lPT:K.lookup fPT=some ⟨ocPT,odPT,.func (PySem.W.fnOf "put" "Way.put" (defArgs sPut) (defBody sPut) (defScope sPut) .none kVPT dcPT pmPT anPT cdPT ctPT),slPT⟩)
  (cPT':PySem.W.codeIn K cdPT "Way.put"=true)
  (kPT:PySem.W.keepIn K (.ref fPT)=true)
  (pgT:PySem.W.plainGet K cT Str.empty=true)
  (hdT:PySem.W.hasDictIn K cT=true)
  (poT:PySem.W.plainOver K cT=true)
  (saT:PySem.W.findIn K (.ref cT) "__setattr__"=some (some (.builtin "object.__setattr__")))
  (mkT:PySem.W.makesIn K cT=true)
  (inT:PySem.W.findIn K (.ref cT) "__init__"=some (some (.builtin "object.__init__")))
  (kcT:PySem.W.keepIn K (.ref cT)=true)
  (aP:PySem.W.nsIn K mainGlobals "Plain"=some (some (.ref cP)))
  (mNP:PySem.W.findIn K (.ref cP) "needed"=some (some (.ref fNP)))
  (iNP:PySem.W.isFn K (.ref fNP)=true)
  (lNP:K.lookup fNP=some ⟨ocNP,odNP,.func (PySem.W.fnOf "needed" "Plain.needed" (defArgs sP) (defBody sP) (defScope sP) .none kVNP dcNP pmNP anNP cdNP ctNP),slNP⟩)
  (cNP':PySem.W.codeIn K cdNP "Plain.needed"=true)
  (kNP:PySem.W.keepIn K (.ref fNP)=true)
  (mAP:PySem.W.findIn K (.ref cP) "asked"=some (some (.ref fAP)))
  (iAP:PySem.W.isFn K (.ref fAP)=true)
  (lAP:K.lookup fAP=some ⟨ocAP,odAP,.func (PySem.W.fnOf "asked" "Plain.asked" (defArgs sAkP) (defBody sAkP) (defScope sAkP) .none kVAP dcAP pmAP anAP cdAP ctAP),slAP⟩)
  (cAP':PySem.W.codeIn K cdAP "Plain.asked"=true)
  (kAP:PySem.W.keepIn K (.ref fAP)=true)
  (mPP:PySem.W.findIn K (.ref cP) "put"=some (some (.ref fPP)))
  (iPP:PySem.W.isFn K (.ref fPP)=true)
  (lPP:K.lookup fPP=some ⟨ocPP,odPP,.func (PySem.W.fnOf "put" "Way.put" (defArgs sPut) (defBody sPut) (defScope sPut) .none kVPP dcPP pmPP anPP cdPP ctPP),slPP⟩)
  (cPP':PySem.W.codeIn K cdPP "Way.put"=true)
  (kPP:PySem.W.keepIn K (.ref fPP)=true)
  (pgP:PySem.W.plainGet K cP Str.empty=true)
  (hdP:PySem.W.hasDictIn K cP=true)
  (poP:PySem.W.plainOver K cP=true)
  (saP:PySem.W.findIn K (.ref cP) "__setattr__"=some (some (.builtin "object.__setattr__")))
  (mkP:PySem.W.makesIn K cP=true)
  (inP:PySem.W.findIn K (.ref cP) "__init__"=some (some (.builtin "object.__init__")))
  (kcP:PySem.W.keepIn K (.ref cP)=true)
  (aM:PySem.W.nsIn K mainGlobals "Manifold"=some (some (.ref cM)))
  (mNM:PySem.W.findIn K (.ref cM) "needed"=some (some (.ref fNM)))
  (iNM:PySem.W.isFn K (.ref fNM)=true)
  (lNM:K.lookup fNM=some ⟨ocNM,odNM,.func (PySem.W.fnOf "needed" "Manifold.needed" (defArgs sM) (defBody sM) (defScope sM) .none kVNM dcNM pmNM anNM cdNM ctNM),slNM⟩)
  (cNM':PySem.W.codeIn K cdNM "Manifold.needed"=true)
  (kNM:PySem.W.keepIn K (.ref fNM)=true)
  (mAM:PySem.W.findIn K (.ref cM) "asked"=some (some (.ref fAM)))
  (iAM:PySem.W.isFn K (.ref fAM)=true)
  (lAM:K.lookup fAM=some ⟨ocAM,odAM,.func (PySem.W.fnOf "asked" "Way.asked" (defArgs sAkW) (defBody sAkW) (defScope sAkW) .none kVAM dcAM pmAM anAM cdAM ctAM),slAM⟩)
  (cAM':PySem.W.codeIn K cdAM "Way.asked"=true)
  (kAM:PySem.W.keepIn K (.ref fAM)=true)
  (mPM:PySem.W.findIn K (.ref cM) "put"=some (some (.ref fPM)))
  (iPM:PySem.W.isFn K (.ref fPM)=true)
  (lPM:K.lookup fPM=some ⟨ocPM,odPM,.func (PySem.W.fnOf "put" "Way.put" (defArgs sPut) (defBody sPut) (defScope sPut) .none kVPM dcPM pmPM anPM cdPM ctPM),slPM⟩)
  (cPM':PySem.W.codeIn K cdPM "Way.put"=true)
  (kPM:PySem.W.keepIn K (.ref fPM)=true)
  (pgM:PySem.W.plainGet K cM Str.empty=true)
  (hdM:PySem.W.hasDictIn K cM=true)
  (poM:PySem.W.plainOver K cM=true)
  (saM:PySem.W.findIn K (.ref cM) "__setattr__"=some (some (.builtin "object.__setattr__")))
  (mkM:PySem.W.makesIn K cM=true)
  (inM:PySem.W.findIn K (.ref cM) "__init__"=some (some (.builtin "object.__init__")))
  (kcM:PySem.W.keepIn K (.ref cM)=true)
  (aTE:PySem.W.nsIn K mainGlobals "TintError"=some (some (.ref cTE)))
  (aX1:PySem.W.nsIn K mainGlobals "NoMeeting"=some (some (.ref cX1)))
  (aX2:PySem.W.nsIn K mainGlobals "NoName"=some (some (.ref cX2)))
  (aX3:PySem.W.nsIn K mainGlobals "NoStep"=some (some (.ref cX3)))
  (aX4:PySem.W.nsIn K mainGlobals "NoText"=some (some (.ref cX4)))
  (aX5:PySem.W.nsIn K mainGlobals "NotAlike"=some (some (.ref cX5)))
  (aX6:PySem.W.nsIn K mainGlobals "NotClean"=some (some (.ref cX6)))
  (aX7:PySem.W.nsIn K mainGlobals "TooGreat"=some (some (.ref cX7)))
  (aEN:PySem.W.nsIn K mainGlobals "NoTie"=some (some (.ref cN)))
  (aER:PySem.W.nsIn K mainGlobals "NotTwoSided"=some (some (.ref cR)))
  (aEQ:PySem.W.nsIn K mainGlobals "NotPlain"=some (some (.ref cQ)))
  (aEF:PySem.W.nsIn K mainGlobals "TooFew"=some (some (.ref cF)))
  (zV:PySem.W.nsIn K mainGlobals "ValueError"=some none)
  (hCx9:PySem.W.mroIn K cTE (.type "BaseException")=some true)
  (hCxnN:RX.xnIn K cN=true)
  (hCxcN:RX.xcIn K cN cTE=true)
  (kpN:PySem.W.keepIn K (.ref cN)=true)
  (hCkNN:PySem.W.kitOne K (.ref cN) (.ref cN)=some true)
  (hCkNR:PySem.W.kitOne K (.ref cN) (.ref cR)=some false)
  (hCkNQ:PySem.W.kitOne K (.ref cN) (.ref cQ)=some false)
  (hCkNF:PySem.W.kitOne K (.ref cN) (.ref cF)=some false)
  (hCkaN:PySem.W.kitAny K (.ref cN) [.ref cX1,.ref cX2,.ref cX3,.ref cX4]=some false)
  (hCkbN:PySem.W.kitAny K (.ref cN) [.ref cX5,.ref cX6,.ref cX7]=some false)
  (hCkvN:PySem.W.kitOne K (.ref cN) (.type "ValueError")=some true)
  (hCkcN:PySem.W.kitCls K (.ref cN) (.ref cTE)=some true)
  (xg1N:PySem.W.findIn K (.ref cN) "__getattribute__"=some (some (.builtin "BaseException.__getattribute__")))
  (xg2N:PySem.W.findIn K (.ref cN) "__getattr__"=some none)
  (xg3N:PySem.W.hasDictIn K cN=true)
  (hCx4N:PySem.W.mroIn K cN (.type "BaseException")=some true)
  (hCx5N:PySem.W.mroIn K cN (.type "object")=some true)
  (xg6N:PySem.W.findIn K (.ref cN) "__class__"=some (some (.builtin "object.__class__")))
  (hCxcR:RX.xcIn K cR cTE=true)
  (kpR:PySem.W.keepIn K (.ref cR)=true)
  (saER:PySem.W.findIn K (.ref cR) "__setattr__"=some (some (.builtin "object.__setattr__")))
  (inER:PySem.W.findIn K (.ref cR) "__init__"=some (some (.ref fIR)))
  (ifER:PySem.W.isFn K (.ref fIR)=true)
  (lIR:K.lookup fIR=some ⟨ocIR,odIR,.func (PySem.W.fnOf "__init__" "NotTwoSided.__init__" (defArgs sIr) (defBody sIr) (defScope sIr) .none kVIR dcIR pmIR anIR cdIR ctIR),slIR⟩)
  (cIR':PySem.W.codeIn K cdIR "NotTwoSided.__init__"=true)
  (kIR:PySem.W.keepIn K (.ref fIR)=true)
  (neR:PySem.W.findIn K (.ref cR) "ring"=some none)
  (hCkRN:PySem.W.kitOne K (.ref cR) (.ref cN)=some false)
  (hCkRR:PySem.W.kitOne K (.ref cR) (.ref cR)=some true)
  (hCkRQ:PySem.W.kitOne K (.ref cR) (.ref cQ)=some false)
  (hCkRF:PySem.W.kitOne K (.ref cR) (.ref cF)=some false)
  (hCkaR:PySem.W.kitAny K (.ref cR) [.ref cX1,.ref cX2,.ref cX3,.ref cX4]=some false)
  (hCkbR:PySem.W.kitAny K (.ref cR) [.ref cX5,.ref cX6,.ref cX7]=some false)
  (hCkvR:PySem.W.kitOne K (.ref cR) (.type "ValueError")=some true)
  (hCkcR:PySem.W.kitCls K (.ref cR) (.ref cTE)=some true)
  (xg1R:PySem.W.findIn K (.ref cR) "__getattribute__"=some (some (.builtin "BaseException.__getattribute__")))
  (xg2R:PySem.W.findIn K (.ref cR) "__getattr__"=some none)
  (xg3R:PySem.W.hasDictIn K cR=true)
  (hCx4R:PySem.W.mroIn K cR (.type "BaseException")=some true)
  (hCx5R:PySem.W.mroIn K cR (.type "object")=some true)
  (xg6R:PySem.W.findIn K (.ref cR) "__class__"=some (some (.builtin "object.__class__")))
  (hCxcQ:RX.xcIn K cQ cTE=true)
  (kpQ:PySem.W.keepIn K (.ref cQ)=true)
  (saEQ:PySem.W.findIn K (.ref cQ) "__setattr__"=some (some (.builtin "object.__setattr__")))
  (inEQ:PySem.W.findIn K (.ref cQ) "__init__"=some (some (.ref fIQ)))
  (ifEQ:PySem.W.isFn K (.ref fIQ)=true)
  (lIQ:K.lookup fIQ=some ⟨ocIQ,odIQ,.func (PySem.W.fnOf "__init__" "NotPlain.__init__" (defArgs sIp) (defBody sIp) (defScope sIp) .none kVIQ dcIQ pmIQ anIQ cdIQ ctIQ),slIQ⟩)
  (cIQ':PySem.W.codeIn K cdIQ "NotPlain.__init__"=true)
  (kIQ:PySem.W.keepIn K (.ref fIQ)=true)
  (neQ:PySem.W.findIn K (.ref cQ) "pair"=some none)
  (hCkQN:PySem.W.kitOne K (.ref cQ) (.ref cN)=some false)
  (hCkQR:PySem.W.kitOne K (.ref cQ) (.ref cR)=some false)
  (hCkQQ:PySem.W.kitOne K (.ref cQ) (.ref cQ)=some true)
  (hCkQF:PySem.W.kitOne K (.ref cQ) (.ref cF)=some false)
  (hCkaQ:PySem.W.kitAny K (.ref cQ) [.ref cX1,.ref cX2,.ref cX3,.ref cX4]=some false)
  (hCkbQ:PySem.W.kitAny K (.ref cQ) [.ref cX5,.ref cX6,.ref cX7]=some false)
  (hCkvQ:PySem.W.kitOne K (.ref cQ) (.type "ValueError")=some true)
  (hCkcQ:PySem.W.kitCls K (.ref cQ) (.ref cTE)=some true)
  (xg1Q:PySem.W.findIn K (.ref cQ) "__getattribute__"=some (some (.builtin "BaseException.__getattribute__")))
  (xg2Q:PySem.W.findIn K (.ref cQ) "__getattr__"=some none)
  (xg3Q:PySem.W.hasDictIn K cQ=true)
  (hCx4Q:PySem.W.mroIn K cQ (.type "BaseException")=some true)
  (hCx5Q:PySem.W.mroIn K cQ (.type "object")=some true)
  (xg6Q:PySem.W.findIn K (.ref cQ) "__class__"=some (some (.builtin "object.__class__")))
  (hCxcF:RX.xcIn K cF cTE=true)
  (kpF:PySem.W.keepIn K (.ref cF)=true)
  (saEF:PySem.W.findIn K (.ref cF) "__setattr__"=some (some (.builtin "object.__setattr__")))
  (inEF:PySem.W.findIn K (.ref cF) "__init__"=some (some (.ref fIF)))
  (ifEF:PySem.W.isFn K (.ref fIF)=true)
  (lIF:K.lookup fIF=some ⟨ocIF,odIF,.func (PySem.W.fnOf "__init__" "TooFew.__init__" (defArgs sIt) (defBody sIt) (defScope sIt) .none kVIF dcIF pmIF anIF cdIF ctIF),slIF⟩)
  (cIF':PySem.W.codeIn K cdIF "TooFew.__init__"=true)
  (kIF:PySem.W.keepIn K (.ref fIF)=true)
  (neF:PySem.W.findIn K (.ref cF) "need"=some none)
  (hCkFN:PySem.W.kitOne K (.ref cF) (.ref cN)=some false)
  (hCkFR:PySem.W.kitOne K (.ref cF) (.ref cR)=some false)
  (hCkFQ:PySem.W.kitOne K (.ref cF) (.ref cQ)=some false)
  (hCkFF:PySem.W.kitOne K (.ref cF) (.ref cF)=some true)
  (hCkaF:PySem.W.kitAny K (.ref cF) [.ref cX1,.ref cX2,.ref cX3,.ref cX4]=some false)
  (hCkbF:PySem.W.kitAny K (.ref cF) [.ref cX5,.ref cX6,.ref cX7]=some false)
  (hCkvF:PySem.W.kitOne K (.ref cF) (.type "ValueError")=some true)
  (hCkcF:PySem.W.kitCls K (.ref cF) (.ref cTE)=some true)
  (xg1F:PySem.W.findIn K (.ref cF) "__getattribute__"=some (some (.builtin "BaseException.__getattribute__")))
  (xg2F:PySem.W.findIn K (.ref cF) "__getattr__"=some none)
  (xg3F:PySem.W.hasDictIn K cF=true)
  (hCx4F:PySem.W.mroIn K cF (.type "BaseException")=some true)
  (hCx5F:PySem.W.mroIn K cF (.type "object")=some true)
  (xg6F:PySem.W.findIn K (.ref cF) "__class__"=some (some (.builtin "object.__class__")))
  (xg7:PySem.W.specialIn K (.builtin "object.__class__") "__get__"=some (some (.builtin "getset_descriptor.__get__")))
  (xg8:PySem.W.takesIn K (.builtin "object.__class__")=some true)
  (z1:PySem.W.nsIn K mainGlobals "len"=some none)
  (z2:PySem.W.nsIn K mainGlobals "isinstance"=some none)
  (z3:PySem.W.nsIn K mainGlobals "int"=some none)
  (z4:PySem.W.nsIn K mainGlobals "bool"=some none)
  (z5:PySem.W.nsIn K mainGlobals "tuple"=some none)
  (z6:PySem.W.nsIn K mainGlobals "list"=some none)
  (z7:PySem.W.nsIn K mainGlobals "range"=some none)
  (z8:PySem.W.nsIn K mainGlobals "max"=some none)
  (z9:PySem.W.nsIn K mainGlobals "min"=some none)
  (z10:PySem.W.nsIn K mainGlobals "zip"=some none)
  (z11:PySem.W.nsIn K mainGlobals "dict"=some none)
  (z12:PySem.W.nsIn K mainGlobals "sorted"=some none)
  (z13:PySem.W.nsIn K mainGlobals "str"=some none)
  (z14:PySem.W.nsIn K mainGlobals "enumerate"=some none)
  (z15:PySem.W.nsIn K mainGlobals "reversed"=some none)
  (z16:PySem.W.nsIn K mainGlobals "set"=some none)
  :∃fd:FuncData,(∀(s:Shared)(v:Value),BindsTo s fd ⟨[v],[]⟩ [("_law_script",v)])/\∀base:Heap,K.In base->base.Ns mainGlobals mg->FnOk l.prog w K mg base CX0 7 fa fd ["_law_script"] (spLaw K):=by
 have e:=hfa.symm.trans (PySem.W.mg_of X G a30)
 cases e
 have F1:=fun_mk (st:=sNum) l1 c1' k1
 have F2:=fun_mk (st:=sBel) l2 c2' k2
 have F3:=fun_mk (st:=sMo) l3 c3' k3
 have F4:=fun_mk (st:=sTa) l4 c4' k4
 have F5:=fun_mk (st:=sFt) l5 c5' k5
 have F6:=fun_mk (st:=sFb) l6 c6' k6
 have F7:=fun_mk (st:=sLp) l7 c7' k7
 have F8:=fun_mk (st:=Sd.sNb) l8 c8' k8
 have F9:=fun_mk (st:=Sd.sSpr) l9 c9' k9
 have F10:=fun_mk (st:=Sd.sCl) l10 c10' k10
 have F11:=fun_mk (st:=Sd.sSd) l11 c11' k11
 have F12:=fun_mk (st:=sDraw) l12 c12' k12
 have F13:=fun_mk (st:=sTie) l13 c13' k13
 have F14:=fun_mk (st:=sNet) l14 c14' k14
 have F15:=fun_mk (st:=sWh) l15 c15' k15
 have F16:=fun_mk (st:=sNu) l16 c16' k16
 have F17:=fun_mk (st:=sTs) l17 c17' k17
 have F18:=fun_mk (st:=sTw) l18 c18' k18
 have F19:=fun_mk (st:=sLm) l19 c19' k19
 have F20:=fun_mk (st:=sRi) l20 c20' k20
 have F21:=fun_mk (st:=sPr) l21 c21' k21
 have F22:=fun_mk (st:=sWd) l22 c22' k22
 have F23:=fun_mk (st:=sRf) l23 c23' k23
 have F24:=fun_mk (st:=sAq) l24 c24' k24
 have F25:=fun_mk (st:=sDu) l25 c25' k25
 have F26:=fun_mk (st:=sFf) l26 c26' k26
 have F27:=fun_mk (st:=sNo) l27 c27' k27
 have F28:=fun_mk (st:=sPd) l28 c28' k28
 have F29:=fun_mk (st:=sAd) l29 c29' k29
 have F30:=fun_mk (st:=sLaw) l30 c30' k30
 have b1:=F1.binds (ps:=["thing"]) fun _ _ _ _ _ _ us hl=>match us,hl with|[_],_=>rfl
 have b2:=F2.binds (ps:=["thing","bound"]) fun _ _ _ _ _ _ us hl=>match us,hl with|[_,_],_=>rfl
 have b3:=F3.binds (ps:=["net"]) fun _ _ _ _ _ _ us hl=>match us,hl with|[_],_=>rfl
 have b4:=F4.binds (ps:=["net","tints","point"]) fun _ _ _ _ _ _ us hl=>match us,hl with|[_,_,_],_=>rfl
 have b5:=F5.binds (ps:=["net","tints","point","many"]) fun _ _ _ _ _ _ us hl=>match us,hl with|[_,_,_,_],_=>rfl
 have b6:=F6.binds (ps:=["net","tints","one","other","many"]) fun _ _ _ _ _ _ us hl=>match us,hl with|[_,_,_,_,_],_=>rfl
 have b7:=F7.binds (ps:=["net"]) fun _ _ _ _ _ _ us hl=>match us,hl with|[_],_=>rfl
 have b8:=F8.binds (ps:=["net"]) fun _ _ _ _ _ _ us hl=>match us,hl with|[_],_=>rfl
 have b9:=F9.binds (ps:=["tied","row","above","root"]) fun _ _ _ _ _ _ us hl=>match us,hl with|[_,_,_,_],_=>rfl
 have b10:=F10.binds (ps:=["above","one","other"]) fun _ _ _ _ _ _ us hl=>match us,hl with|[_,_,_],_=>rfl
 have b11:=F11.binds (ps:=["net"]) fun _ _ _ _ _ _ us hl=>match us,hl with|[_],_=>rfl
 have b12:=F12.binds (ps:=["_law_script","_law_k"]) fun _ _ _ _ _ _ us hl=>match us,hl with|[_,_],_=>rfl
 have b13:=F13.binds (ps:=["_law_number","_law_k","_law_points","_law_kind"]) fun _ _ _ _ _ _ us hl=>match us,hl with|[_,_,_,_],_=>rfl
 have b14:=F14.binds (ps:=["_law_script","_law_at"]) fun _ _ _ _ _ _ us hl=>match us,hl with|[_,_],_=>rfl
 have b15:=F15.binds (ps:=["_law_found"]) fun _ _ _ _ _ _ us hl=>match us,hl with|[_],_=>rfl
 have b16:=F16.binds (ps:=["_law_found","_law_most_here"]) fun _ _ _ _ _ _ us hl=>match us,hl with|[_,_],_=>rfl
 have b17:=F17.binds (ps:=["_law_net_here"]) fun _ _ _ _ _ _ us hl=>match us,hl with|[_],_=>rfl
 have b18:=F18.binds (ps:=["_law_net_here"]) fun _ _ _ _ _ _ us hl=>match us,hl with|[_],_=>rfl
 have b19:=F19.binds (ps:=["_law_net_here"]) fun _ _ _ _ _ _ us hl=>match us,hl with|[_],_=>rfl
 have b20:=F20.binds (ps:=["_law_net_here","_law_ring"]) fun _ _ _ _ _ _ us hl=>match us,hl with|[_,_],_=>rfl
 have b21:=F21.binds (ps:=["_law_net_here","_law_pair"]) fun _ _ _ _ _ _ us hl=>match us,hl with|[_,_],_=>rfl
 have b22:=F22.binds (ps:=["_law_error"]) fun _ _ _ _ _ _ us hl=>match us,hl with|[_],_=>rfl
 have b23:=F23.binds (ps:=["_law_way","_law_net_here","_law_tints","_law_tie_here","_law_many"]) fun _ _ _ _ _ _ us hl=>match us,hl with|[_,_,_,_,_],_=>rfl
 have b24:=F24.binds (ps:=["_law_way","_law_net_here"]) fun _ _ _ _ _ _ us hl=>match us,hl with|[_,_],_=>rfl
 have b25:=F25.binds (ps:=["_law_net_here","_law_at","_law_no_tie_here","_law_many","_law_need"]) fun _ _ _ _ _ _ us hl=>match us,hl with|[_,_,_,_,_],_=>rfl
 have b26:=F26.binds (ps:=["_law_net_here","_law_found","_law_need"]) fun _ _ _ _ _ _ us hl=>match us,hl with|[_,_,_],_=>rfl
 have b27:=F27.binds (ps:=["_law_number","_law_ties"]) fun _ _ _ _ _ _ us hl=>match us,hl with|[_,_],_=>rfl
 have b28:=F28.binds (ps:=["_law_script","_law_way","_law_at","_law_net_here","_law_k"]) fun _ _ _ _ _ _ us hl=>match us,hl with|[_,_,_,_,_],_=>rfl
 have b29:=F29.binds (ps:=["_law_way","_law_at","_law_net_here"]) fun _ _ _ _ _ _ us hl=>match us,hl with|[_,_,_],_=>rfl
 have CW:Cls K cW:=⟨pgW,hdW,poW,saW⟩
 have mW:Mk0 K cW:=⟨mkW,inW,kcW⟩
 have gW:=PySem.W.mg_of X G aW
 have FNW:=fun_mk (st:=sW) lNW cNW' kNW
 have bNW:=FNW.binds (ps:=["self","most"]) fun _ _ _ _ _ _ us hl=>match us,hl with|[_,_],_=>rfl
 have FAW:=fun_mk (st:=sAkW) lAW cAW' kAW
 have bAW:=FAW.binds (ps:=["self","net"]) fun _ _ _ _ _ _ us hl=>match us,hl with|[_,_],_=>rfl
 have FPW:=fun_mk (st:=sPut) lPW cPW' kPW
 have bPW:=FPW.binds (ps:=["self","net","tints","tie","many"]) fun _ _ _ _ _ _ us hl=>match us,hl with|[_,_,_,_,_],_=>rfl
 have CT:Cls K cT:=⟨pgT,hdT,poT,saT⟩
 have mT:Mk0 K cT:=⟨mkT,inT,kcT⟩
 have gT:=PySem.W.mg_of X G aT
 have FNT:=fun_mk (st:=sT) lNT cNT' kNT
 have bNT:=FNT.binds (ps:=["self","most"]) fun _ _ _ _ _ _ us hl=>match us,hl with|[_,_],_=>rfl
 have FAT:=fun_mk (st:=sAkT) lAT cAT' kAT
 have bAT:=FAT.binds (ps:=["self","net"]) fun _ _ _ _ _ _ us hl=>match us,hl with|[_,_],_=>rfl
 have FPT:=fun_mk (st:=sPut) lPT cPT' kPT
 have bPT:=FPT.binds (ps:=["self","net","tints","tie","many"]) fun _ _ _ _ _ _ us hl=>match us,hl with|[_,_,_,_,_],_=>rfl
 have CP:Cls K cP:=⟨pgP,hdP,poP,saP⟩
 have mP:Mk0 K cP:=⟨mkP,inP,kcP⟩
 have gP:=PySem.W.mg_of X G aP
 have FNP:=fun_mk (st:=sP) lNP cNP' kNP
 have bNP:=FNP.binds (ps:=["self","most"]) fun _ _ _ _ _ _ us hl=>match us,hl with|[_,_],_=>rfl
 have FAP:=fun_mk (st:=sAkP) lAP cAP' kAP
 have bAP:=FAP.binds (ps:=["self","net"]) fun _ _ _ _ _ _ us hl=>match us,hl with|[_,_],_=>rfl
 have FPP:=fun_mk (st:=sPut) lPP cPP' kPP
 have bPP:=FPP.binds (ps:=["self","net","tints","tie","many"]) fun _ _ _ _ _ _ us hl=>match us,hl with|[_,_,_,_,_],_=>rfl
 have CM:Cls K cM:=⟨pgM,hdM,poM,saM⟩
 have mM:Mk0 K cM:=⟨mkM,inM,kcM⟩
 have gM:=PySem.W.mg_of X G aM
 have FNM:=fun_mk (st:=sM) lNM cNM' kNM
 have bNM:=FNM.binds (ps:=["self","most"]) fun _ _ _ _ _ _ us hl=>match us,hl with|[_,_],_=>rfl
 have FAM:=fun_mk (st:=sAkW) lAM cAM' kAM
 have bAM:=FAM.binds (ps:=["self","net"]) fun _ _ _ _ _ _ us hl=>match us,hl with|[_,_],_=>rfl
 have FPM:=fun_mk (st:=sPut) lPM cPM' kPM
 have bPM:=FPM.binds (ps:=["self","net","tints","tie","many"]) fun _ _ _ _ _ _ us hl=>match us,hl with|[_,_,_,_,_],_=>rfl
 have T:Bi mg:=⟨PySem.W.mg_none_of X G z1,PySem.W.mg_none_of X G z2,PySem.W.mg_none_of X G z3,PySem.W.mg_none_of X G z4,PySem.W.mg_none_of X G z5,PySem.W.mg_none_of X G z6,PySem.W.mg_none_of X G z7,PySem.W.mg_none_of X G z8,PySem.W.mg_none_of X G z9,PySem.W.mg_none_of X G z10,PySem.W.mg_none_of X G z11⟩
 have g1:=PySem.W.mg_of X G a1
 have g2:=PySem.W.mg_of X G a2
 have g3:=PySem.W.mg_of X G a3
 have g4:=PySem.W.mg_of X G a4
 have g5:=PySem.W.mg_of X G a5
 have g6:=PySem.W.mg_of X G a6
 have g7:=PySem.W.mg_of X G a7
 have g8:=PySem.W.mg_of X G a8
 have g9:=PySem.W.mg_of X G a9
 have g10:=PySem.W.mg_of X G a10
 have g11:=PySem.W.mg_of X G a11
 have g12:=PySem.W.mg_of X G a12
 have g13:=PySem.W.mg_of X G a13
 have g14:=PySem.W.mg_of X G a14
 have g15:=PySem.W.mg_of X G a15
 have g16:=PySem.W.mg_of X G a16
 have g17:=PySem.W.mg_of X G a17
 have g18:=PySem.W.mg_of X G a18
 have g19:=PySem.W.mg_of X G a19
 have g20:=PySem.W.mg_of X G a20
 have g21:=PySem.W.mg_of X G a21
 have g22:=PySem.W.mg_of X G a22
 have g23:=PySem.W.mg_of X G a23
 have g24:=PySem.W.mg_of X G a24
 have g25:=PySem.W.mg_of X G a25
 have g26:=PySem.W.mg_of X G a26
 have g27:=PySem.W.mg_of X G a27
 have g28:=PySem.W.mg_of X G a28
 have g29:=PySem.W.mg_of X G a29
 refine⟨PySem.W.fnOf "law" "law" (defArgs sLaw) (defBody sLaw) (defScope sLaw) .none kV30 dc30 pm30 an30 cd30 ct30,fun s v=> .of_eq rfl,fun base _ _=>?_⟩
 have E1:FnE l.prog w K mg base "is_number" ["thing"] 1 spNum2:=⟨⟨f1,_,ok_num2 F1 T,g1,k1,b1⟩⟩
 have E2:FnE l.prog w K mg base "is_below" ["thing","bound"] 2 spBel2:=⟨⟨f2,_,ok_bel2 F2 E1,g2,k2,b2⟩⟩
 have E3:FnE l.prog w K mg base "most_of" ["net"] 1 spMo:=⟨⟨f3,_,ok_mo F3 T,g3,k3,b3⟩⟩
 have E4:FnE l.prog w K mg base "tints_at" ["net","tints","point"] 1 (spTa l.prog w):=⟨⟨f4,_,ok_ta F4 T,g4,k4,b4⟩⟩
 have E5:FnE l.prog w K mg base "free_tints" ["net","tints","point","many"] 2 spFt:=⟨⟨f5,_,ok_ft F5 T E4,g5,k5,b5⟩⟩
 have E6:FnE l.prog w K mg base "free_at_both" ["net","tints","one","other","many"] 3 spFb:=⟨⟨f6,_,ok_fb F6 T (E4.mono (by decide)) E5,g6,k6,b6⟩⟩
 have E7:FnE l.prog w K mg base "like_pair" ["net"] 1 spLp:=⟨⟨f7,_,ok_lp F7 T (PySem.W.mg_none_of X G z14),g7,k7,b7⟩⟩
 have E8:FnE l.prog w K mg base "neighbours" ["net"] 1 Sd.spNb:=⟨⟨f8,_,Sd.ok_nb F8 T,g8,k8,b8⟩⟩
 have E9:FnE l.prog w K mg base "spread" ["tied","row","above","root"] 1 Sd.spSpr:=⟨⟨f9,_,Sd.ok_spr F9 T,g9,k9,b9⟩⟩
 have E10:FnE l.prog w K mg base "closed" ["above","one","other"] 1 Sd.spCl:=⟨⟨f10,_,Sd.ok_cl F10 T (PySem.W.mg_none_of X G z15),g10,k10,b10⟩⟩
 have E11:FnE l.prog w K mg base "sides" ["net"] 2 Sd.spSd:=⟨⟨f11,_,Sd.ok_sd F11 T E8 E9 E10,g11,k11,b11⟩⟩
 have E12:FnE l.prog w K mg base "_law_draw" ["_law_script","_law_k"] 1 (spDraw K):=⟨⟨f12,_,ok_draw F12 T,g12,k12,b12⟩⟩
 have E13:FnE l.prog w K mg base "_law_tie" ["_law_number","_law_k","_law_points","_law_kind"] 1 spTie:=⟨⟨f13,_,ok_tie F13,g13,k13,b13⟩⟩
 have E14:FnE l.prog w K mg base "_law_net" ["_law_script","_law_at"] 2 (spNet K):=⟨⟨f14,_,ok_net F14 T E12 E13,g14,k14,b14⟩⟩
 have E15:FnE l.prog w K mg base "_law_whole" ["_law_found"] 1 (spWh K):=⟨⟨f15,_,ok_wh F15 T,g15,k15,b15⟩⟩
 have E16:FnE l.prog w K mg base "_law_numbers" ["_law_found","_law_most_here"] 2 spNu:=⟨⟨f16,_,ok_nu F16 T E15,g16,k16,b16⟩⟩
 have E17:FnE l.prog w K mg base "_law_two_sided" ["_law_net_here"] 1 spTs:=⟨⟨f17,_,ok_ts F17 T,g17,k17,b17⟩⟩
 have E18:FnE l.prog w K mg base "_law_twins" ["_law_net_here"] 1 spTw:=⟨⟨f18,_,ok_tw F18 T (PySem.W.mg_none_of X G z16),g18,k18,b18⟩⟩
 have E19:FnE l.prog w K mg base "_law_most" ["_law_net_here"] 1 spLm:=⟨⟨f19,_,ok_lm F19 T,g19,k19,b19⟩⟩
 have E20:FnE l.prog w K mg base "_law_is_ring" ["_law_net_here","_law_ring"] 3 spRi:=⟨⟨f20,_,ok_ri F20 T (PySem.W.mg_none_of X G z16) E16,g20,k20,b20⟩⟩
 have E21:FnE l.prog w K mg base "_law_is_pair" ["_law_net_here","_law_pair"] 3 spPr:=⟨⟨f21,_,ok_pr F21 T (PySem.W.mg_none_of X G z12) E16,g21,k21,b21⟩⟩
 have GW:Gw mg cN cR cQ cF cX1 cX2 cX3 cX4 cX5 cX6 cX7 cTE:=⟨(PySem.W.mg_of X G aEN),(PySem.W.mg_of X G aER),(PySem.W.mg_of X G aEQ),(PySem.W.mg_of X G aEF),(PySem.W.mg_of X G aX1),(PySem.W.mg_of X G aX2),(PySem.W.mg_of X G aX3),(PySem.W.mg_of X G aX4),(PySem.W.mg_of X G aX5),(PySem.W.mg_of X G aX6),(PySem.W.mg_of X G aX7),(PySem.W.mg_of X G aTE),PySem.W.mg_none_of X G zV⟩
 have E22:FnE l.prog w K mg base "_law_word" ["_law_error"] 1 (spWd K cN cR cQ cF cX1 cX2 cX3 cX4 cX5 cX6 cX7 cTE):=⟨⟨f22,_,ok_wd F22 T GW,g22,k22,b22⟩⟩
 have K0:Kw K cN cR cQ cF cX1 cX2 cX3 cX4 cX5 cX6 cX7 cTE cN 0:=⟨hCkNN,hCkNR,hCkNQ,hCkNF,hCkaN,hCkbN,hCkvN,hCkcN,⟨xg1N,xg2N,xg3N,hCx4N,hCx5N,xg6N,xg7,xg8⟩⟩
 have K1:Kw K cN cR cQ cF cX1 cX2 cX3 cX4 cX5 cX6 cX7 cTE cR 1:=⟨hCkRN,hCkRR,hCkRQ,hCkRF,hCkaR,hCkbR,hCkvR,hCkcR,⟨xg1R,xg2R,xg3R,hCx4R,hCx5R,xg6R,xg7,xg8⟩⟩
 have FIR:=fun_mk (st:=sIr) lIR cIR' kIR
 have bIR:=FIR.binds (ps:=["self","ring"]) fun _ _ _ _ _ _ us hl=>match us,hl with|[_,_],_=>rfl
 have XCR:RX.XCl K cR cTE:=⟨hCxcR,saER,kpR⟩
 have GR:GrF l.prog w K mg base "NotTwoSided" "ring" cR:=⟨⟨cTE,_,_,XCR,inER,ifER,ok_ir FIR XCR neR,bIR⟩,(PySem.W.mg_of X G aER)⟩
 have K2:Kw K cN cR cQ cF cX1 cX2 cX3 cX4 cX5 cX6 cX7 cTE cQ 2:=⟨hCkQN,hCkQR,hCkQQ,hCkQF,hCkaQ,hCkbQ,hCkvQ,hCkcQ,⟨xg1Q,xg2Q,xg3Q,hCx4Q,hCx5Q,xg6Q,xg7,xg8⟩⟩
 have FIQ:=fun_mk (st:=sIp) lIQ cIQ' kIQ
 have bIQ:=FIQ.binds (ps:=["self","pair"]) fun _ _ _ _ _ _ us hl=>match us,hl with|[_,_],_=>rfl
 have XCQ:RX.XCl K cQ cTE:=⟨hCxcQ,saEQ,kpQ⟩
 have GQ:GrF l.prog w K mg base "NotPlain" "pair" cQ:=⟨⟨cTE,_,_,XCQ,inEQ,ifEQ,ok_ip FIQ XCQ neQ,bIQ⟩,(PySem.W.mg_of X G aEQ)⟩
 have K3:Kw K cN cR cQ cF cX1 cX2 cX3 cX4 cX5 cX6 cX7 cTE cF 3:=⟨hCkFN,hCkFR,hCkFQ,hCkFF,hCkaF,hCkbF,hCkvF,hCkcF,⟨xg1F,xg2F,xg3F,hCx4F,hCx5F,xg6F,xg7,xg8⟩⟩
 have FIF:=fun_mk (st:=sIt) lIF cIF' kIF
 have bIF:=FIF.binds (ps:=["self","need"]) fun _ _ _ _ _ _ us hl=>match us,hl with|[_,_],_=>rfl
 have XCF:RX.XCl K cF cTE:=⟨hCxcF,saEF,kpF⟩
 have GF:GrF l.prog w K mg base "TooFew" "need" cF:=⟨⟨cTE,_,_,XCF,inEF,ifEF,ok_it FIF XCF neF,bIF⟩,(PySem.W.mg_of X G aEF)⟩
 have AK0:FnOk l.prog w K mg base (RX.CXe l.prog w) 3 fAW _ ["self","net"] (spAk 0 cR cQ):=(ok_akW (P:=l.prog) (w:=w) (base:=base) (mg:=mg) (cR:=cR) (cP:=cQ) FAW (at':=0) (by decide) (by decide)).mono (by decide)
 have MN0:MeE l.prog w K mg base cW "needed" ["self","most"] 1 (spN (nd 0)):=⟨⟨fNW,_,ok_W FNW T,⟨mNW,iNW,kNW⟩,CW,bNW⟩⟩
 have PU0:FnOk l.prog w K mg base (RX.CXe l.prog w) 4 fPW _ pPut (spPut 0 cW cN cR cQ cF):=ok_put FPW T hCxcN hCxnN kpN (PySem.W.mg_of X G aEN) GF E2 E3 E6 CW ⟨mAW,iAW,kAW⟩ AK0 bAW MN0
 have R0:FnOk l.prog w K mg base CX0 5 f23 _ pRf (spRf 0 cW):=ok_rf F23 GW hCx9 K0 K1 K2 K3 neR neQ neF E22 CW ⟨mPW,iPW,kPW⟩ PU0 bPW
 have A0:FnOk l.prog w K mg base CX0 5 f24 _ pAq (spAq 0 cW):=ok_aq F24 GW hCx9 K1 K2 neR neQ E22 CW ⟨mAW,iAW,kAW⟩ AK0 bAW
 have AK1:FnOk l.prog w K mg base (RX.CXe l.prog w) 3 fAT _ ["self","net"] (spAk 1 cR cQ):=ok_akT (P:=l.prog) (w:=w) (base:=base) (cP:=cQ) FAT GR E11
 have MN1:MeE l.prog w K mg base cT "needed" ["self","most"] 1 (spN (nd 1)):=⟨⟨fNT,_,ok_T FNT,⟨mNT,iNT,kNT⟩,CT,bNT⟩⟩
 have PU1:FnOk l.prog w K mg base (RX.CXe l.prog w) 4 fPT _ pPut (spPut 1 cT cN cR cQ cF):=ok_put FPT T hCxcN hCxnN kpN (PySem.W.mg_of X G aEN) GF E2 E3 E6 CT ⟨mAT,iAT,kAT⟩ AK1 bAT MN1
 have R1:FnOk l.prog w K mg base CX0 5 f23 _ pRf (spRf 1 cT):=ok_rf F23 GW hCx9 K0 K1 K2 K3 neR neQ neF E22 CT ⟨mPT,iPT,kPT⟩ PU1 bPT
 have A1:FnOk l.prog w K mg base CX0 5 f24 _ pAq (spAq 1 cT):=ok_aq F24 GW hCx9 K1 K2 neR neQ E22 CT ⟨mAT,iAT,kAT⟩ AK1 bAT
 have AK2:FnOk l.prog w K mg base (RX.CXe l.prog w) 3 fAP _ ["self","net"] (spAk 2 cR cQ):=ok_akP (P:=l.prog) (w:=w) (base:=base) (cR:=cR) FAP GQ E7
 have MN2:MeE l.prog w K mg base cP "needed" ["self","most"] 1 (spN (nd 2)):=⟨⟨fNP,_,ok_P FNP,⟨mNP,iNP,kNP⟩,CP,bNP⟩⟩
 have PU2:FnOk l.prog w K mg base (RX.CXe l.prog w) 4 fPP _ pPut (spPut 2 cP cN cR cQ cF):=ok_put FPP T hCxcN hCxnN kpN (PySem.W.mg_of X G aEN) GF E2 E3 E6 CP ⟨mAP,iAP,kAP⟩ AK2 bAP MN2
 have R2:FnOk l.prog w K mg base CX0 5 f23 _ pRf (spRf 2 cP):=ok_rf F23 GW hCx9 K0 K1 K2 K3 neR neQ neF E22 CP ⟨mPP,iPP,kPP⟩ PU2 bPP
 have A2:FnOk l.prog w K mg base CX0 5 f24 _ pAq (spAq 2 cP):=ok_aq F24 GW hCx9 K1 K2 neR neQ E22 CP ⟨mAP,iAP,kAP⟩ AK2 bAP
 have AK3:FnOk l.prog w K mg base (RX.CXe l.prog w) 3 fAM _ ["self","net"] (spAk 3 cR cQ):=(ok_akW (P:=l.prog) (w:=w) (base:=base) (mg:=mg) (cR:=cR) (cP:=cQ) FAM (at':=3) (by decide) (by decide)).mono (by decide)
 have MN3:MeE l.prog w K mg base cM "needed" ["self","most"] 1 (spN (nd 3)):=⟨⟨fNM,_,ok_M FNM,⟨mNM,iNM,kNM⟩,CM,bNM⟩⟩
 have PU3:FnOk l.prog w K mg base (RX.CXe l.prog w) 4 fPM _ pPut (spPut 3 cM cN cR cQ cF):=ok_put FPM T hCxcN hCxnN kpN (PySem.W.mg_of X G aEN) GF E2 E3 E6 CM ⟨mAM,iAM,kAM⟩ AK3 bAM MN3
 have R3:FnOk l.prog w K mg base CX0 5 f23 _ pRf (spRf 3 cM):=ok_rf F23 GW hCx9 K0 K1 K2 K3 neR neQ neF E22 CM ⟨mPM,iPM,kPM⟩ PU3 bPM
 have A3:FnOk l.prog w K mg base CX0 5 f24 _ pAq (spAq 3 cM):=ok_aq F24 GW hCx9 K1 K2 neR neQ E22 CM ⟨mAM,iAM,kAM⟩ AK3 bAM
 have E23:FnE l.prog w K mg base "_law_refused" ["_law_way","_law_net_here","_law_tints","_law_tie_here","_law_many"] 5 (spRfA (cl4 cW cT cP cM)):=⟨⟨f23,_,fn_four (sp:=fun at'=>spRf at' ((cl4 cW cT cP cM) at')) (four R0 R1 R2 R3),g23,k23,b23⟩⟩
 have E24:FnE l.prog w K mg base "_law_asked" ["_law_way","_law_net_here"] 5 (spAqA (cl4 cW cT cP cM)):=⟨⟨f24,_,fn_four (sp:=fun at'=>spAq at' ((cl4 cW cT cP cM) at')) (four A0 A1 A2 A3),g24,k24,b24⟩⟩
 have E25:FnE l.prog w K mg base "_law_due" ["_law_net_here","_law_at","_law_no_tie_here","_law_many","_law_need"] 2 spDu:=⟨⟨f25,_,ok_du F25 E17 E18,g25,k25,b25⟩⟩
 have E26:FnE l.prog w K mg base "_law_field_fits" ["_law_net_here","_law_found","_law_need"] 4 spFf:=⟨⟨f26,_,ok_ff F26 T E20 E21 E15,g26,k26,b26⟩⟩
 have E27:FnE l.prog w K mg base "_law_no_tie" ["_law_number","_law_ties"] 1 spNo:=⟨⟨f27,_,ok_no F27,g27,k27,b27⟩⟩
 have E28:FnE l.prog w K mg base "_law_put_as_due" ["_law_script","_law_way","_law_at","_law_net_here","_law_k"] 6 (spPd K (cl4 cW cT cP cM)):=⟨⟨f28,_,ok_pd F28 T E19 E12 E27 E25 E23 E26,g28,k28,b28⟩⟩
 have E29:FnE l.prog w K mg base "_law_asked_as_due" ["_law_way","_law_at","_law_net_here"] 6 (spAd (cl4 cW cT cP cM)):=⟨⟨f29,_,ok_ad F29 E25 E24 E26,g29,k29,b29⟩⟩
 exact ok_law F30 T (four (S:=fun at'=>Mk0 K ((cl4 cW cT cP cM) at')) mW mT mP mM) gW gT gP gM E12 E14 E23 E29 E28
theorem walk{l:PySem.W.OpenLaw}{q:Program}{loose:List Str}{XP:(Str->Option Value)->Heap->Prop}{YP:World->Heap->Prop}{d:DefRec}{K:Params->PySem.W.Frag}(hn:l.most=some 63)(hdf:d.params.defaults=[])
  (hY:∀(w:World)(h:Heap),YP w h->(K w.params).In h)
  (F:∀(w:World)(mg:Str->Option Value)(fa:Addr)(h:Heap),(K w.params).In h->h.Ns mainGlobals mg->mg d.name=some (.ref fa)->
   ∃fd:FuncData,(∀(s:Shared)(u:Value),BindsTo s fd ⟨[u],[]⟩ [("_law_script",u)])/\∀base:Heap,(K w.params).In base->base.Ns mainGlobals mg->FnOk l.prog w (K w.params) mg base CX0 7 fa fd ["_law_script"] (spLaw (K w.params))):
  PySem.W.WalkO q loose XP YP l.row.toRowW d [] (fun f vs=>PySem.call f vs):=
 L2.walk_of (n:=63) (k:=7) (x:="_law_script") (CX:=fun _=>CX0) (sp:=fun w=>spLaw (K w.params)) hn (by decide) hdf ⟨rfl,by decide,by decide⟩ hY F (fun _ _ a ns hl _ hS=>⟨a,ns,rfl,hS,hl,fun _=>rfl⟩) fun _ _ _ _ _ z=>z
end My
open PySem PySem.W PyProof.Rows
def PySem.W.Fast.tw11138310478848653263:Unit:=()
def PySem.W.Fast.tw14351612218058700100:Unit:=()
def PySem.W.Fast.tw4023470696591596572:Unit:=()
def PySem.W.Fast.tw8830047715259089382:Unit:=()
def PySem.W.Fast.tw1100713234214153202:Unit:=()
def PySem.W.Fast.tw16937862263322325592:Unit:=()
def PySem.W.Fast.tw7953737989918842857:Unit:=()
def PySem.W.Fast.tw7124276521978222030:Unit:=()
def PySem.W.Fast.tw7905293143040328649:Unit:=()
def PySem.W.Fast.tw17845773924323083801:Unit:=()
def PySem.W.Fast.tw6141259282723718287:Unit:=()
def PySem.W.Fast.tw14589595508106578985:Unit:=()
def PySem.W.Fast.tw9723049773103908125:Unit:=()
def PySem.W.Fast.tw6501439746653701174:Unit:=()
def PySem.W.Fast.tw15152510690228258981:Unit:=()
def PySem.W.Fast.tw7895797867068034234:Unit:=()
def PySem.W.Fast.tw12668980436348845628:Unit:=()
def PySem.W.Fast.tw10596604542417817416:Unit:=()
def PySem.W.Fast.tw12279414468458092864:Unit:=()
def PySem.W.Fast.tw13558385726419521482:Unit:=()
def PySem.W.Fast.tw1617997793131331662:Unit:=()
def PySem.W.Fast.tw9016514740806654270:Unit:=()
def PySem.W.Fast.tw2182332351666547694:Unit:=()
def PySem.W.Fast.tw11389086893249355450:Unit:=()
def PySem.W.Fast.tw12264289977770590649:Unit:=()
def PySem.W.Fast.tw12772779695831520068:Unit:=()
def PySem.W.Fast.tw9217940077467440158:Unit:=()
def PySem.W.Fast.tw10808990473229895753:Unit:=()
def PySem.W.Fast.tw3905738067816233784:Unit:=()
def PySem.W.Fast.tw17138690782022314090:Unit:=()
def PySem.W.Fast.tw3722158638219677890:Unit:=()
def PySem.W.Fast.tw17825083665836837022:Unit:=()
def PySem.W.Fast.tw4789036950919839669:Unit:=()
def PySem.W.Fast.tw2506397303499131702:Unit:=()
def PySem.W.Fast.tw5077766831697885381:Unit:=()
def PySem.W.Fast.tw15416625641799798969:Unit:=()
def PySem.W.Fast.tw9018424964383090788:Unit:=()
def PySem.W.Fast.tw17820449092815901480:Unit:=()
def PySem.W.Fast.tw11826679239948367257:Unit:=()
def PySem.W.Fast.tw5578587862205602477:Unit:=()
def PySem.W.Fast.tw5474836520417051620:Unit:=()
def PySem.W.Fast.tw9795118255895616186:Unit:=()
def PySem.W.Fast.tw7959204856069879286:Unit:=()
def PySem.W.Fast.tw11060597288337367395:Unit:=()
def PySem.W.Fast.tw12621955653455161384:Unit:=()
def PySem.W.Fast.tw3860628996837543385:Unit:=()
def PySem.W.Fast.tw7009385223737346507:Unit:=()
def PySem.W.Fast.tw14413806757404869471:Unit:=()
def PySem.W.Fast.tw2673785737502832924:Unit:=()
def PySem.W.Fast.tw14716997109457653274:Unit:=()
def PySem.W.Fast.tw133345881597520587:Unit:=()
def PySem.W.Fast.tw16940095081367362581:Unit:=()
def PySem.W.Fast.tw18152436235108674636:Unit:=()
def PySem.W.Fast.tw1661956268899362735:Unit:=()
def PySem.W.Fast.tw10120428628223724317:Unit:=()
def PySem.W.Fast.tw9613000883951747476:Unit:=()
def PySem.W.Fast.tw11457702652632921811:Unit:=()
def PySem.W.Fast.tw11003869919241802252:Unit:=()
def PySem.W.Fast.tw14744954633570673763:Unit:=()
def PySem.W.Fast.tw13522930306373268685:Unit:=()
def PySem.W.Fast.tw13610152787859847272:Unit:=()
def PySem.W.Fast.tw11957450103382273567:Unit:=()
def PySem.W.Fast.tw5185498294622172055:Unit:=()
def PySem.W.Fast.tw3900293878127537005:Unit:=()
def PySem.W.Fast.tw11016541106523069309:Unit:=()
def PySem.W.Fast.tw14158239113630143569:Unit:=()
def PySem.W.Fast.tw8326372151100080493:Unit:=()
def PySem.W.Fast.tw5246931629559369391:Unit:=()
def PySem.W.Fast.tw13423129119136815044:Unit:=()
def PySem.W.Fast.tw15730666017376878143:Unit:=()
def PySem.W.Fast.tw8636203228022001994:Unit:=()
def PySem.W.Fast.tw16604049844283040550:Unit:=()
def PySem.W.Fast.tw5188750666022916487:Unit:=()
def PySem.W.Fast.tw2248680256419565919:Unit:=()
def PySem.W.Fast.tw14602280777095643781:Unit:=()
def PySem.W.Fast.tw6040445206573269788:Unit:=()
def PySem.W.Fast.tw15112503538663067915:Unit:=()
def PySem.W.Fast.tw17063128572102676359:Unit:=()
def PySem.W.Fast.tw1148556858567112914:Unit:=()
def PySem.W.Fast.tw8858290982468675909:Unit:=()
def PySem.W.Fast.tw17873172394334867416:Unit:=()
def PySem.W.Fast.tw12387196132680635994:Unit:=()
def PySem.W.Fast.tw11518929715109849647:Unit:=()
def PySem.W.Fast.tw18406742572691454324:Unit:=()
def PySem.W.Fast.tw11997942065008310946:Unit:=()
def PySem.W.Fast.tw15317356854137819771:Unit:=()
def PySem.W.Fast.tw17859688756882726469:Unit:=()
def PySem.W.Fast.tw9601510045103025329:Unit:=()
def PySem.W.Fast.tw13493085457670689243:Unit:=()
def PySem.W.Fast.tw8267527637107039873:Unit:=()
def PySem.W.Fast.tw8708504329708093267:Unit:=()
def PySem.W.Fast.tw3408823237994931177:Unit:=()
def PySem.W.Fast.tw16068580130893387025:Unit:=()
def PySem.W.Fast.tw5278987713509590014:Unit:=()
def PySem.W.Fast.tw4157619930508792164:Unit:=()
def PySem.W.Fast.tw18366075622748174166:Unit:=()
def PySem.W.Fast.tw577496239864177346:Unit:=()
def PySem.W.Fast.tw11149606062295596790:Unit:=()
def PySem.W.Fast.tw13101742992898245504:Unit:=()
def PySem.W.Fast.tw14235872853798799286:Unit:=()
def PySem.W.Fast.tw3470755739313088868:Unit:=()
def PySem.W.Fast.tw497625494040720547:Unit:=()
def PySem.W.Fast.tw18274396621017293287:Unit:=()
def PySem.W.Fast.tw12148685904090680037:Unit:=()
def PySem.W.Fast.tw4099790379078174971:Unit:=()
def PySem.W.Fast.tw16657777126053006569:Unit:=()
def PySem.W.Fast.tw3795683616489989412:Unit:=()
def PySem.W.Fast.tw4739036979027268631:Unit:=()
def PySem.W.Fast.tw9097012362925856561:Unit:=()
def PySem.W.Fast.tw5669381206660046897:Unit:=()
set_option maxRecDepth 100000 in
set_option maxHeartbeats 0 in
theorem PySem.Challenge.cw_tintties_k35_ways_refused_holds : PySem.Challenge.rw_tintties_k35_ways_refused.Holds := by
 w_on;o_law;k_head;(case hw=>w_witness2)
 k_fill
 refine My.walk (l:=PySem.Challenge.rw_tintties_k35_ways_refused) rfl rfl (fun w h Y=>PySem.W.kIn_of Y) ?F
 case F=>
  intro w mg fa h KX G hmg
  refine' My.all_mk KX G hmg ?a1 ?l1 ?c1p ?k1 ?a2 ?l2 ?c2p ?k2 ?a3 ?l3 ?c3p ?k3 ?a4 ?l4 ?c4p ?k4 ?a5 ?l5 ?c5p ?k5 ?a6 ?l6 ?c6p ?k6 ?a7 ?l7 ?c7p ?k7 ?a8 ?l8 ?c8p ?k8 ?a9 ?l9 ?c9p ?k9 ?a10 ?l10 ?c10p ?k10 ?a11 ?l11 ?c11p ?k11 ?a12 ?l12 ?c12p ?k12 ?a13 ?l13 ?c13p ?k13 ?a14 ?l14 ?c14p ?k14 ?a15 ?l15 ?c15p ?k15 ?a16 ?l16 ?c16p ?k16 ?a17 ?l17 ?c17p ?k17 ?a18 ?l18 ?c18p ?k18 ?a19 ?l19 ?c19p ?k19 ?a20 ?l20 ?c20p ?k20 ?a21 ?l21 ?c21p ?k21 ?a22 ?l22 ?c22p ?k22 ?a23 ?l23 ?c23p ?k23 ?a24 ?l24 ?c24p ?k24 ?a25 ?l25 ?c25p ?k25 ?a26 ?l26 ?c26p ?k26 ?a27 ?l27 ?c27p ?k27 ?a28 ?l28 ?c28p ?k28 ?a29 ?l29 ?c29p ?k29 ?a30 ?l30 ?c30p ?k30 ?aW ?mNW ?iNW ?lNW ?cNWp ?kNW ?mAW ?iAW ?lAW ?cAWp ?kAW ?mPW ?iPW ?lPW ?cPWp ?kPW ?pgW ?hdW ?poW ?saW ?mkW ?inW ?kcW ?aT ?mNT ?iNT ?lNT ?cNTp ?kNT ?mAT ?iAT ?lAT ?cATp ?kAT ?mPT ?iPT ?lPT ?cPTp ?kPT ?pgT ?hdT ?poT ?saT ?mkT ?inT ?kcT ?aP ?mNP ?iNP ?lNP ?cNPp ?kNP ?mAP ?iAP ?lAP ?cAPp ?kAP ?mPP ?iPP ?lPP ?cPPp ?kPP ?pgP ?hdP ?poP ?saP ?mkP ?inP ?kcP ?aM ?mNM ?iNM ?lNM ?cNMp ?kNM ?mAM ?iAM ?lAM ?cAMp ?kAM ?mPM ?iPM ?lPM ?cPMp ?kPM ?pgM ?hdM ?poM ?saM ?mkM ?inM ?kcM ?aTE ?aX1 ?aX2 ?aX3 ?aX4 ?aX5 ?aX6 ?aX7 ?aEN ?aER ?aEQ ?aEF ?zV ?hCx9 ?hCxnN ?hCxcN ?kpN ?hCkNN ?hCkNR ?hCkNQ ?hCkNF ?hCkaN ?hCkbN ?hCkvN ?hCkcN ?xg1N ?xg2N ?xg3N ?hCx4N ?hCx5N ?xg6N ?hCxcR ?kpR ?saER ?inER ?ifER ?lIR ?cIRp ?kIR ?neR ?hCkRN ?hCkRR ?hCkRQ ?hCkRF ?hCkaR ?hCkbR ?hCkvR ?hCkcR ?xg1R ?xg2R ?xg3R ?hCx4R ?hCx5R ?xg6R ?hCxcQ ?kpQ ?saEQ ?inEQ ?ifEQ ?lIQ ?cIQp ?kIQ ?neQ ?hCkQN ?hCkQR ?hCkQQ ?hCkQF ?hCkaQ ?hCkbQ ?hCkvQ ?hCkcQ ?xg1Q ?xg2Q ?xg3Q ?hCx4Q ?hCx5Q ?xg6Q ?hCxcF ?kpF ?saEF ?inEF ?ifEF ?lIF ?cIFp ?kIF ?neF ?hCkFN ?hCkFR ?hCkFQ ?hCkFF ?hCkaF ?hCkbF ?hCkvF ?hCkcF ?xg1F ?xg2F ?xg3F ?hCx4F ?hCx5F ?xg6F ?xg7 ?xg8 ?z1 ?z2 ?z3 ?z4 ?z5 ?z6 ?z7 ?z8 ?z9 ?z10 ?z11 ?z12 ?z13 ?z14 ?z15 ?z16
  (case a1=>k_is);(case l1=>k_is);(case c1p=>k_is);(case k1=>k_is)
  (case a2=>k_is);(case l2=>k_is);(case c2p=>k_is);(case k2=>k_is)
  (case a3=>k_is);(case l3=>k_is);(case c3p=>k_is);(case k3=>k_is)
  (case a4=>k_is);(case l4=>k_is);(case c4p=>k_is);(case k4=>k_is)
  (case a5=>k_is);(case l5=>k_is);(case c5p=>k_is);(case k5=>k_is)
  (case a6=>k_is);(case l6=>k_is);(case c6p=>k_is);(case k6=>k_is)
  (case a7=>k_is);(case l7=>k_is);(case c7p=>k_is);(case k7=>k_is)
  (case a8=>k_is);(case l8=>k_is);(case c8p=>k_is);(case k8=>k_is)
  (case a9=>k_is);(case l9=>k_is);(case c9p=>k_is);(case k9=>k_is)
  (case a10=>k_is);(case l10=>k_is);(case c10p=>k_is);(case k10=>k_is)
  (case a11=>k_is);(case l11=>k_is);(case c11p=>k_is);(case k11=>k_is)
  (case a12=>k_is);(case l12=>k_is);(case c12p=>k_is);(case k12=>k_is)
  (case a13=>k_is);(case l13=>k_is);(case c13p=>k_is);(case k13=>k_is)
  (case a14=>k_is);(case l14=>k_is);(case c14p=>k_is);(case k14=>k_is)
  (case a15=>k_is);(case l15=>k_is);(case c15p=>k_is);(case k15=>k_is)
  (case a16=>k_is);(case l16=>k_is);(case c16p=>k_is);(case k16=>k_is)
  (case a17=>k_is);(case l17=>k_is);(case c17p=>k_is);(case k17=>k_is)
  (case a18=>k_is);(case l18=>k_is);(case c18p=>k_is);(case k18=>k_is)
  (case a19=>k_is);(case l19=>k_is);(case c19p=>k_is);(case k19=>k_is)
  (case a20=>k_is);(case l20=>k_is);(case c20p=>k_is);(case k20=>k_is)
  (case a21=>k_is);(case l21=>k_is);(case c21p=>k_is);(case k21=>k_is)
  (case a22=>k_is);(case l22=>k_is);(case c22p=>k_is);(case k22=>k_is)
  (case a23=>k_is);(case l23=>k_is);(case c23p=>k_is);(case k23=>k_is)
  (case a24=>k_is);(case l24=>k_is);(case c24p=>k_is);(case k24=>k_is)
  (case a25=>k_is);(case l25=>k_is);(case c25p=>k_is);(case k25=>k_is)
  (case a26=>k_is);(case l26=>k_is);(case c26p=>k_is);(case k26=>k_is)
  (case a27=>k_is);(case l27=>k_is);(case c27p=>k_is);(case k27=>k_is)
  (case a28=>k_is);(case l28=>k_is);(case c28p=>k_is);(case k28=>k_is)
  (case a29=>k_is);(case l29=>k_is);(case c29p=>k_is);(case k29=>k_is)
  (case a30=>k_is);(case l30=>k_is);(case c30p=>k_is);(case k30=>k_is)
  (case aW=>k_is);(case mNW=>k_is);(case iNW=>k_is);(case lNW=>k_is)
  (case cNWp=>k_is);(case kNW=>k_is);(case mAW=>k_is);(case iAW=>k_is)
  (case lAW=>k_is);(case cAWp=>k_is);(case kAW=>k_is);(case mPW=>k_is)
  (case iPW=>k_is);(case lPW=>k_is);(case cPWp=>k_is);(case kPW=>k_is)
  (case pgW=>k_is);(case hdW=>k_is);(case poW=>k_is);(case saW=>k_is)
  (case mkW=>k_is);(case inW=>k_is);(case kcW=>k_is);(case aT=>k_is)
  (case mNT=>k_is);(case iNT=>k_is);(case lNT=>k_is);(case cNTp=>k_is)
  (case kNT=>k_is);(case mAT=>k_is);(case iAT=>k_is);(case lAT=>k_is)
  (case cATp=>k_is);(case kAT=>k_is);(case mPT=>k_is);(case iPT=>k_is)
  (case lPT=>k_is);(case cPTp=>k_is);(case kPT=>k_is);(case pgT=>k_is)
  (case hdT=>k_is);(case poT=>k_is);(case saT=>k_is);(case mkT=>k_is)
  (case inT=>k_is);(case kcT=>k_is);(case aP=>k_is);(case mNP=>k_is)
  (case iNP=>k_is);(case lNP=>k_is);(case cNPp=>k_is);(case kNP=>k_is)
  (case mAP=>k_is);(case iAP=>k_is);(case lAP=>k_is);(case cAPp=>k_is)
  (case kAP=>k_is);(case mPP=>k_is);(case iPP=>k_is);(case lPP=>k_is)
  (case cPPp=>k_is);(case kPP=>k_is);(case pgP=>k_is);(case hdP=>k_is)
  (case poP=>k_is);(case saP=>k_is);(case mkP=>k_is);(case inP=>k_is)
  (case kcP=>k_is);(case aM=>k_is);(case mNM=>k_is);(case iNM=>k_is)
  (case lNM=>k_is);(case cNMp=>k_is);(case kNM=>k_is);(case mAM=>k_is)
  (case iAM=>k_is);(case lAM=>k_is);(case cAMp=>k_is);(case kAM=>k_is)
  (case mPM=>k_is);(case iPM=>k_is);(case lPM=>k_is);(case cPMp=>k_is)
  (case kPM=>k_is);(case pgM=>k_is);(case hdM=>k_is);(case poM=>k_is)
  (case saM=>k_is);(case mkM=>k_is);(case inM=>k_is);(case kcM=>k_is)
  (case aTE=>k_is);(case aX1=>k_is);(case aX2=>k_is);(case aX3=>k_is)
  (case aX4=>k_is);(case aX5=>k_is);(case aX6=>k_is);(case aX7=>k_is)
  (case aEN=>k_is);(case aER=>k_is);(case aEQ=>k_is);(case aEF=>k_is)
  (case zV=>k_is);(case hCx9=>kernel_rfl);(case hCxnN=>kernel_rfl);(case hCxcN=>kernel_rfl)
  (case kpN=>k_is);(case hCkNN=>kernel_rfl);(case hCkNR=>kernel_rfl);(case hCkNQ=>kernel_rfl)
  (case hCkNF=>kernel_rfl);(case hCkaN=>kernel_rfl);(case hCkbN=>kernel_rfl);(case hCkvN=>kernel_rfl)
  (case hCkcN=>kernel_rfl);(case xg1N=>k_is);(case xg2N=>k_is);(case xg3N=>k_is)
  (case hCx4N=>kernel_rfl);(case hCx5N=>kernel_rfl);(case xg6N=>k_is);(case hCxcR=>kernel_rfl)
  (case kpR=>k_is);(case saER=>k_is);(case inER=>k_is);(case ifER=>k_is)
  (case lIR=>k_is);(case cIRp=>k_is);(case kIR=>k_is);(case neR=>k_is)
  (case hCkRN=>kernel_rfl);(case hCkRR=>kernel_rfl);(case hCkRQ=>kernel_rfl);(case hCkRF=>kernel_rfl)
  (case hCkaR=>kernel_rfl);(case hCkbR=>kernel_rfl);(case hCkvR=>kernel_rfl);(case hCkcR=>kernel_rfl)
  (case xg1R=>k_is);(case xg2R=>k_is);(case xg3R=>k_is);(case hCx4R=>kernel_rfl)
  (case hCx5R=>kernel_rfl);(case xg6R=>k_is);(case hCxcQ=>kernel_rfl);(case kpQ=>k_is)
  (case saEQ=>k_is);(case inEQ=>k_is);(case ifEQ=>k_is);(case lIQ=>k_is)
  (case cIQp=>k_is);(case kIQ=>k_is);(case neQ=>k_is);(case hCkQN=>kernel_rfl)
  (case hCkQR=>kernel_rfl);(case hCkQQ=>kernel_rfl);(case hCkQF=>kernel_rfl);(case hCkaQ=>kernel_rfl)
  (case hCkbQ=>kernel_rfl);(case hCkvQ=>kernel_rfl);(case hCkcQ=>kernel_rfl);(case xg1Q=>k_is)
  (case xg2Q=>k_is);(case xg3Q=>k_is);(case hCx4Q=>kernel_rfl);(case hCx5Q=>kernel_rfl)
  (case xg6Q=>k_is);(case hCxcF=>kernel_rfl);(case kpF=>k_is);(case saEF=>k_is)
  (case inEF=>k_is);(case ifEF=>k_is);(case lIF=>k_is);(case cIFp=>k_is)
  (case kIF=>k_is);(case neF=>k_is);(case hCkFN=>kernel_rfl);(case hCkFR=>kernel_rfl)
  (case hCkFQ=>kernel_rfl);(case hCkFF=>kernel_rfl);(case hCkaF=>kernel_rfl);(case hCkbF=>kernel_rfl)
  (case hCkvF=>kernel_rfl);(case hCkcF=>kernel_rfl);(case xg1F=>k_is);(case xg2F=>k_is)
  (case xg3F=>k_is);(case hCx4F=>kernel_rfl);(case hCx5F=>kernel_rfl);(case xg6F=>k_is)
  (case xg7=>k_is);(case xg8=>k_is);(case z1=>k_is);(case z2=>k_is)
  (case z3=>k_is);(case z4=>k_is);(case z5=>k_is);(case z6=>k_is)
  (case z7=>k_is);(case z8=>k_is);(case z9=>k_is);(case z10=>k_is)
  (case z11=>k_is);(case z12=>k_is);(case z13=>k_is);(case z14=>k_is)
  (case z15=>k_is);(case z16=>k_is)
#print axioms PySem.Challenge.cw_tintties_k35_ways_refused_holds
