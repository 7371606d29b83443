import PyProof.Rows.All
import Wide.All
import OpenK.AllK
import Wide.FinOn
import Lean
import PyProof.EqAt
import PyProof.EqKinds
import PyProof.TupleCall
import PySem.SetTable
import PySem.SetOps
import PyProof.Rows.SetFrom
import PyProof.NeKinds
import PyProof.Rows.StrInSeq3
import PyProof.AttrMissHeap
import PyProof.Rows.SeqMore
import PyProof.Rows.SeqMore2
import PyProof.Rows.SortShellK
import PyProof.Rows.SortRev
import PySem.Challenge.RW_tintties_k84_tables_refused
set_option Elab.async false
set_option linter.all false
set_option maxRecDepth 100000
set_option maxHeartbeats 4000000
namespace L2
open PySem PySem.Spec PyProof.Rows
abbrev Key:=Sum Int Str
def keyIs:Key->Value->Bool
 | .inl k,v=>Value.isInt k v
 | .inr x,v=>Value.isStrOf x v
def keyH(w:World):Key->Int
 | .inl k=>hashInt k
 | .inr x=>hashStr w x
theorem keyIs_shape:∀{k}{v},keyIs k v=true->(∃i t,k=Sum.inl i/\v=Value.int i t)\/(∃x t,k=Sum.inr x/\v=Value.str x t)
 | .inl i,v,h=>by
  obtain⟨t,e⟩:=Value.isInt_shape h
  simp_all
 | .inr x,v,h=>by
  obtain⟨t,e⟩:=Value.isStrOf_shape h
  simp_all
theorem keyIs_int(i)(t):keyIs (.inl i) (.int i t)=true:=by simp[keyIs,Value.isInt]
theorem keyIs_str(x)(t):keyIs (.inr x) (.str x t)=true:=by simp[keyIs,Value.isStrOf]
theorem key_ll(a b):decide ((Sum.inl a:Key)=Sum.inl b)=(a==b):=by
 grind
theorem key_rr(a b):decide ((Sum.inr a:Key)=Sum.inr b)=decide (a=b):=by
 simp_all
theorem key_lr(a)(b):decide ((Sum.inl a:Key)=Sum.inr b)=false:=decide_eq_false (fun q=>nomatch q)
theorem key_rl(a)(b):decide ((Sum.inr a:Key)=Sum.inl b)=false:=decide_eq_false (fun q=>nomatch q)
def mixKind(prog)(w):PySem.KeyKind prog w Key where
 is:=keyIs
 hash:=keyH w
 inj:=fun v a b ha hb=>by
  rcases keyIs_shape ha with⟨i,t,rfl,rfl⟩|⟨x,t,rfl,rfl⟩
  ·rcases keyIs_shape hb with⟨j,u,rfl,e⟩|⟨y,u,rfl,e⟩
   ·injection e with e1 _;rw[e1]
   ·exact nomatch e
  ·rcases keyIs_shape hb with⟨j,u,rfl,e⟩|⟨y,u,rfl,e⟩
   ·exact nomatch e
   ·injection e with e1 _;rw[e1]
 byValue:=fun k v h=>by
  rcases keyIs_shape h with⟨i,t,rfl,rfl⟩|⟨x,t,rfl,rfl⟩<;>rfl
 pyHash:=fun hv h=>by
  rcases keyIs_shape hv with⟨i,t,rfl,rfl⟩|⟨x,t,rfl,rfl⟩
  ·exact wpAny_pyHash_int h
  ·exact wpAny_pyHash_str h
 eqBool:=fun hu hv h=>by
  rcases keyIs_shape hu with⟨i,t,rfl,rfl⟩|⟨x,t,rfl,rfl⟩
  ·rcases keyIs_shape hv with⟨j,u,rfl,rfl⟩|⟨y,u,rfl,rfl⟩
   ·rw[key_ll]at h;exact wpAny_eqBool_int h
   ·rw[key_lr]at h;exact SeqAt.EqAt.int_str i t y u _ _ _ _ h
  ·rcases keyIs_shape hv with⟨j,u,rfl,rfl⟩|⟨y,u,rfl,rfl⟩
   ·rw[key_rl]at h;exact SeqAt.EqAt.str_int x t j u _ _ _ _ h
   ·rw[key_rr]at h;exact wpAny_eqBool_str h
 «strs»:=fun k x t v h=>by
  rcases keyIs_shape h with⟨i,u,rfl,e⟩|⟨y,u,rfl,e⟩
  ·exact nomatch e
  ·injection e with e1 _
   subst e1
   cases v<;>rfl
theorem mixKind_int(prog)(w)(i)(t):(mixKind prog w).is (.inl i) (.int i t)=true:=keyIs_int i t
theorem mixKind_str(prog)(w)(x)(t):(mixKind prog w).is (.inr x) (.str x t)=true:=keyIs_str x t
inductive V where
 |non|bl (b:Bool)|int (i:Int)|str (x:Str)|byt (b:Array UInt8)|flt (b:UInt64)|ref (a:Addr)|ty (n:String)
 deriving DecidableEq
def RelV:V->Value->Prop
 | .non,u=>u=Value.none
 | .bl b,u=>u=Value.bool b
 | .int i,u=>∃t,u=Value.int i t
 | .str x,u=>∃t,u=Value.str x t
 | .byt b,u=>∃t,u=Value.bytes b t
 | .flt b,u=>∃t,u=Value.float b t
 | .ref a,u=>u=Value.ref a
 | .ty n,u=>u=Value.type n
abbrev Vals:List V->List Value->Prop:=Paired RelV
theorem Vals.length{xs}{us}(r:Vals xs us):xs.length=us.length:=Paired.length r
theorem Vals.get:∀{xs}{us}{i:Nat}{x},Vals xs us->xs[i]?=some x->∃u,us[i]?=some u/\RelV x u
 |_,_,_,_,.nil,e=>by simp at e
 |_,_,0,_,.cons r _,e=>by simp_all
 |_,_,i+1,x,.cons _ t,e=>by
  obtain⟨u,_,_⟩:=Vals.get t (by simpa using e)
  simp_all
theorem Vals.set{x}{u}(r:RelV x u):∀{xs}{us}(i),Vals xs us->Vals (xs.set i x) (us.set i u)
 |_,_,_,.nil=> .nil
 |_,_,0,.cons _ t=> .cons r t
 |_,_,i+1,.cons q t=> .cons q (Vals.set r i t)
theorem Vals.append:∀{xs ys}{us ws},Vals xs us->Vals ys ws->Vals (xs++ys) (us++ws)
 |_,_,_,_,.nil,s=>s
 |_,_,_,_,.cons r t,s=> .cons r (Vals.append t s)
theorem Vals.take:∀{xs}{us}(n),Vals xs us->Vals (xs.take n) (us.take n)
 |_,_,0,_=> .nil
 |_,_,_+1,.nil=> .nil
 |_,_,n+1,.cons r t=> .cons r (Vals.take n t)
theorem Vals.drop:∀{xs}{us}(n),Vals xs us->Vals (xs.drop n) (us.drop n)
 |_,_,0,r=>r
 |_,_,_+1,.nil=> .nil
 |_,_,n+1,.cons _ t=>Vals.drop n t
def RelO:Option V->Option Value->Prop
 |some v,some u=>RelV v u
 |none,none=>True
 |_,_=>False
def KV{κ}:List (κ×V)->List (κ×Value)->Prop:=Paired fun p q=>p.1=q.1/\RelV p.2 q.2
def kV:Key->V
 | .inl i=> .int i
 | .inr x=> .str x
inductive HO where
 |lst (xs:List V)
 |tup (xs:List V)
 |dK (kvs:List (Key×V))|dT (kvs:List (List Key×V))
 |set (S:Int->Bool) (n:Nat)
 |ins (C dx:Addr) (fs:List (Str×V))
 |own (x:Addr)
 |xd (fs:List (Str×V))
 |met (f x:Addr)
 |rng (lo hi:Int)
 |frz (o:Obj) (u:HO)
 |tbl (ps:Array Value)
 |ext (φ:Heap->Prop)
abbrev Hp:=Addr->Option HO
def upd(H:Hp)(a:Addr)(o:HO):Hp:=fun b=>if b=a then some o else H b
theorem upd_same{H}{a}{o}:upd H a o a=some o:=by unfold upd;rw[if_pos rfl]
theorem upd_ne{H}{a b}{o}(h:b≠a):upd H a o b=H b:=by unfold upd;rw[if_neg h]
theorem upd_upd{H}{a}{o u}:upd (upd H a o) a u=upd H a u:=by
 funext b;unfold upd;split<;>rfl
theorem ne_of{H:Hp}{a b}{o u}(h:H a=some o)(h':H b=some u)(d:o≠u):a≠b:=by
 grind
theorem ne_of_none{H:Hp}{a b}{o}(h:H a=some o)(h':H b=none):a≠b:=by
 grind
section
variable(P:Program)(w:World)
def ObjOk(H:Hp)(h:Heap)(a:Addr):HO->Prop
 | .lst xs=>xs.length<=sizeLine/\∃(its:List Value)(n:Nat),Vals xs its/\h.get? a=some {cls:= .type "list",data:= .seq its.toArray n}
 | .tup xs=>xs.length<=sizeLine/\∃its:List Value,Vals xs its/\IsTup h a its.toArray
 | .dK kvs=>kvs.length<=sizeLine/\(a==sysModules)=false/\∃vs,KV kvs vs/\h.DictOf (mixKind P w) a vs
 | .dT kvs=>kvs.length<=sizeLine/\(a==sysModules)=false/\∃xs:List (List Key×Addr×Value),
   Paired (fun(p:List Key×V)(q:List Key×Addr×Value)=>p.1=q.1/\H q.2.1=some (.tup (p.1.map kV))/\RelV p.2 q.2.2) kvs xs/\
   ∃o es ep,h.get? a=some o/\o.ExactDict/\o.data= .dict es ep/\es.toList=xs.map (entryOfKey (tupleKind (mixKind P w)))/\(xs.map (·.1)).Nodup
 | .set S n=>h.SetOf (intKind P w) a S n
 | .ins C dx fs=>H dx=some (.own a)/\fs.length<=1000/\dx≠a/\h.get? a=some (PySem.W.instObj C dx)/\
   ∃mA,h.Ns1 dx mA/\(∀f,RelO (fs.lookup f) (mA f))/\PySem.Within mA (fs.map (·.1))
 | .own _=>∃o,h.get? a=some o
 | .xd fs=>∃mA,h.Ns1 a mA/\∀f,RelO (fs.lookup f) (mA f)
 | .rng lo hi=>∃t u v,h.get? a=some {cls:= .type "range",data:= .fields #[.int lo t,.int hi u,.int 1 v]}
 | .frz o u=>h.get? a=some o/\ObjOk H h a u
 | .tbl ps=>h.get? a=some {cls:= .none,data:= .fields ps}
 | .met f x=>h.get? a=some (PySem.W.methodObj (.ref f) (.ref x))
 | .ext φ=>φ h/\(∃o,h.get? a=some o)/\∀h1 h2:Heap,φ h1->(∀o,h1.get? a=some o->h2.get? a=some o)->φ h2
def HOk(H:Hp)(h:Heap):Prop:=∀a o,H a=some o->ObjOk P w H h a o
end
section
variable{P:Program}{w:World}{H H':Hp}{h h':Heap}{a:Addr}{o:HO}
theorem ObjOk.lt(x:ObjOk P w H h a o):a<h.objs.size:=by
 cases o with
 |lst d=>obtain⟨_,_,_,_,e⟩:=x;exact Heap.lt_size e
 |tup d=>obtain⟨_,_,_,p⟩:=x;exact p.lt
 |dK b=>obtain⟨_,_,_,_,o,_,_,e,_⟩:=x;exact Heap.lt_size e
 |dT b=>obtain⟨_,_,_,_,o,_,_,e,_⟩:=x;exact Heap.lt_size e
 |set S n=>obtain⟨o,_,_,_,e,_⟩:=x;exact Heap.lt_size e
 |ins C _ c=>obtain⟨_,_,_,e,_⟩:=x;exact Heap.lt_size e
 |own y=>obtain⟨_,e⟩:=x;exact Heap.lt_size e
 |xd c=>obtain⟨_,⟨_,_,_,e,_⟩,_⟩:=x;exact Heap.lt_size e
 |rng lo _=>obtain⟨_,_,_,e⟩:=x;exact Heap.lt_size e
 |frz _ u=>obtain⟨e,_⟩:=x;exact Heap.lt_size e
 |tbl _=>exact Heap.lt_size x
 |met f y=>exact Heap.lt_size x
 |_ φ=>obtain⟨_,⟨_,e⟩,_⟩:=x;exact Heap.lt_size e
theorem Paired.mapP{α β}{F G}:∀{l₁:List α}{l₂:List β},Paired F l₁ l₂->(∀a b,F a b->G a b)->Paired G l₁ l₂
 |_,_,.nil,_=> .nil
 |_,_,.cons r t,f=> .cons (f _ _ r) (Paired.mapP t f)
theorem ObjOk.stay(x:ObjOk P w H h a o)(k:∀b u,(b=a\/H b=some (.own a))->h.get? b=some u->h'.get? b=some u)
  (ho:∀b,H b=some (.own a)->H' b=some (.own a)) (ht:∀b xs,H b=some (.tup xs)->H' b=some (.tup xs)):ObjOk P w H' h' a o:=by
 induction o with
 |lst xs=>obtain⟨z,m,n,r,e⟩:=x;exact⟨z,_,n,r,k _ _ (.inl rfl) e⟩
 |tup xs=>obtain⟨z,m,r,i,e,c⟩:=x;exact⟨z,_,r,i,k _ _ (.inl rfl) e,c⟩
 |dK A=>obtain⟨z,y,F,r,i,j,l,e,c⟩:=x;exact⟨z,y,F,r,i,j,l,k _ _ (.inl rfl) e,c⟩
 |dT A=>
  obtain⟨z,y,xs,r,i,j,l,e,c⟩:=x
  exact⟨z,y,xs,Paired.mapP r fun p q z=>⟨z.1,ht _ _ z.2.1,z.2.2⟩,i,j,l,k _ _ (.inl rfl) e,c⟩
 |set S n=>obtain⟨i,j,l,t,e,c⟩:=x;exact⟨i,j,l,t,k _ _ (.inl rfl) e,c⟩
 |ins C _ I=>
  obtain⟨d,z,E,e,s,⟨B,j,l,G,c⟩,r⟩:=x
  exact⟨ho _ d,z,E,k _ _ (.inl rfl) e,s,⟨B,j,l,k _ _ (.inr d) G,c⟩,r⟩
 |own y=>obtain⟨i,e⟩:=x;exact⟨i,k _ _ (.inl rfl) e⟩
 |xd I=>obtain⟨s,⟨B,j,l,e,c⟩,r⟩:=x;exact⟨s,⟨B,j,l,k _ _ (.inl rfl) e,c⟩,r⟩
 |rng lo _=>obtain⟨t,u,v,e⟩:=x;exact⟨t,u,v,k _ _ (.inl rfl) e⟩
 |frz i u D=>obtain⟨e,q⟩:=x;exact⟨k _ _ (.inl rfl) e,D q⟩
 |tbl _=>
  have e:=x
  exact k a _ (.inl rfl) e
 |met f y=>
  have e:=x
  exact k a _ (.inl rfl) e
 |_ φ=>obtain⟨p,⟨o,e⟩,st⟩:=x;exact⟨st _ _ p fun o q=>k _ _ (.inl rfl) q,⟨o,k _ _ (.inl rfl) e⟩,st⟩
theorem HOk.lt(x:HOk P w H h)(e:H a=some o):a<h.objs.size:=(x a o e).lt
theorem HOk.fresh(x:HOk P w H h)(e:h.objs.size<=a):H a=none:=by
 cases q:H a with
 |none=>rfl
 |_ u=>exact absurd (Nat.lt_of_lt_of_le (x.lt q) e) (Nat.lt_irrefl _)
theorem HOk.kept(x:HOk P w H h)(k:∀b u,h.get? b=some u->h'.get? b=some u):HOk P w H h':=fun a o e=>
 (x a o e).stay (fun b u _ q=>k b u q) (fun _ q=>q) fun _ _ q=>q
theorem HOk.laid(x:HOk P w H h)(k:∀b u,h.get? b=some u->h'.get? b=some u) (hp:h.objs.size<=a) (new:ObjOk P w (upd H a o) h' a o):HOk P w (upd H a o) h':=fun b u e=>by
 have f:=x.fresh hp
 by_cases d:b=a
 ·subst d;rw[upd_same]at e;cases e;exact new
 ·rw[upd_ne d]at e
  exact(x b u e).stay (fun c v _ q=>k c v q) (fun c q=>by rw[upd_ne (ne_of_none q f)];exact q) fun c _ q=>by rw[upd_ne (ne_of_none q f)];exact q
end
def Rd(H:Hp)(a:Addr)(u:HO):Prop:=H a=some u\/∃o,H a=some (.frz o u)
theorem Rd.of{H}{a}{u}(h:H a=some u):Rd H a u:= .inl h
theorem Rd.ok{P}{w}{H}{h}{a}{u}(r:Rd H a u)(x:HOk P w H h):ObjOk P w H h a u:=by
 rcases r with r|⟨o,r⟩
 ·exact x a u r
 ·obtain⟨_,q⟩:=x a _ r
  exact q
def Mut:Option HO->Prop
 |some (.lst _)=>True
 |some (.dK _)=>True
 |some (.dT _)=>True
 |some (.set _ _)=>True
 |some (.ins _ _ _)=>True
 |some (.ext _)=>True
 |_=>False
section
variable{P:Program}{w:World}{H:Hp}{h h':Heap}{x e:Addr}{o':HO}
theorem HOk.write(ok:HOk P w H h)(mu:Mut (H x))(he:e=x\/H e=some (.own x))(k:∀b u,b≠e->h.get? b=some u->h'.get? b=some u) (heo:∃u,h'.get? e=some u)
  (new:ObjOk P w (upd H x o') h' x o'):HOk P w (upd H x o') h':=fun b u q=>by
 have a:∀c y,H c=some (.own y)->c≠x:=fun c y r z=>by subst z;rw[r]at mu;exact mu
 by_cases g:b=x
 ·subst g;rw[upd_same]at q;cases q;exact new
 ·rw[upd_ne g]at q
  by_cases f:b=e
  ·have i:H b=some (.own x):=by
    grind
   rw[q]at i;cases i
   obtain⟨v,j⟩:=heo
   exact⟨v,by rw[f];exact j⟩
  ·refine(ok b u q).stay (fun c v _ r=>k c v ?_ r) (fun c r=>by rw[upd_ne (a c b r)];exact r) fun c d r=>by rw[upd_ne ((show∀c d,H c=some _->c≠x from fun c d r z=>by subst z;rw[r]at mu;exact mu) c d r)];exact r
   grind
end
structure Un(fs ex:List Addr)(H H':Hp)(h h':Heap):Prop where
 keep:∀b o,h.get? b=some o->H b=none->b ∉ fs->b ∉ ex->h'.get? b=some o
 slot:∀b o,h.get? b=some o->H b=none->b∈fs->b ∉ ex->∃sl,h'.get? b=some {o with slots:=sl}
 free:∀b o,h.get? b=some o->H b=none->b ∉ ex->H' b=none
 there:∀b o,h.get? b=some o->b ∉ ex->∃o',h'.get? b=some o'
 tups:∀b xs,H b=some (.tup xs)->H' b=some (.tup xs)
 frzs:∀b o u,H b=some (.frz o u)->H' b=some (.frz o u)
 tbls:∀b ps,H b=some (.tbl ps)->∃more,H' b=some (.tbl (ps++more))
section
variable{fs fs' ex ex':List Addr}{H H1 H2:Hp}{h h1 h2 h':Heap}{a x e:Addr}{o:HO}
theorem Un.any(u:Un fs ex H H1 h h1){b}{ob}(q:h.get? b=some ob)(n:H b=none)(hx:b ∉ ex):∃sl,h1.get? b=some {ob with slots:=sl}:=by
 by_cases a:b∈fs
 ·exact u.slot b ob q n a hx
 ·exact⟨_,u.keep b ob q n a hx⟩
theorem Un.trans(a:Un fs ex H H1 h h1)(b:Un fs ex H1 H2 h1 h2):Un fs ex H H2 h h2 where
 keep:=fun c d q n i e=>b.keep c d (a.keep c d q n i e) (a.free c d q n e) i e
 slot:=fun c d q n i e=>by
  obtain⟨_,f⟩:=a.slot c d q n i e
  obtain⟨_,k⟩:=b.slot c _ f (a.free c d q n e) i e
  exact⟨_,k⟩
 free:=fun c d q n e=>by
  obtain⟨j,f⟩:=a.there c d q e
  exact b.free c j f (a.free c d q n e) e
 there:=fun c d q e=>by
  obtain⟨j,f⟩:=a.there c d q e
  exact b.there c j f e
 tups:=fun c g q=>b.tups c g (a.tups c g q)
 frzs:=fun c d g q=>b.frzs c d g (a.frzs c d g q)
 tbls:=fun c l q=>by
  obtain⟨_,f⟩:=a.tbls c l q
  obtain⟨_,k⟩:=b.tbls c _ f
  grind
theorem Un.kept(k:∀b u,h.get? b=some u->h'.get? b=some u):Un fs ex H H h h':=
 ⟨fun b a q _ _ _=>k b a q,fun b a q _ _ _=>⟨_,k b a q⟩,fun _ _ _ n _=>n,fun b a q _=>⟨a,k b a q⟩,fun _ _ q=>q,fun _ _ _ q=>q,fun _ _ q=>⟨#[],by rw[q];simp⟩⟩
theorem Un.refl:Un fs ex H H h h:=Un.kept fun _ _ q=>q
theorem Un.laid(k:∀b u,h.get? b=some u->h'.get? b=some u) (hp:h.objs.size<=a) (hn:H a=none):Un fs ex H (upd H a o) h h' where
 keep:=fun b u q _ _ _=>k b u q
 slot:=fun b u q _ _ _=>⟨_,k b u q⟩
 free:=fun b u q n _=>by rw[upd_ne (Nat.ne_of_lt (Nat.lt_of_lt_of_le (Heap.lt_size q) hp))];exact n
 there:=fun b u q _=>⟨u,k b u q⟩
 tups:=fun b c q=>by rw[upd_ne (ne_of_none q hn)];exact q
 frzs:=fun b u c q=>by rw[upd_ne (ne_of_none q hn)];exact q
 tbls:=fun b _ q=>⟨#[],by rw[upd_ne (ne_of_none q hn),q];simp⟩
theorem Un.write(mu:Mut (H x))(he:e=x\/H e=some (.own x))(k:∀b u,b≠e->h.get? b=some u->h'.get? b=some u) (heo:∃u,h'.get? e=some u):Un fs ex H (upd H x o) h h':=by
 have f:∀b,H b=none->b≠x:=fun b n z=>by subst z;rw[n]at mu;exact mu
 have d:∀b,H b=none->b≠e:=fun b n z=>by
  simp_all
 have c:∀b u,H b=some u->¬Mut (some u)->b≠x:=fun b u q _ z=>by simp_all
 refine⟨fun b u q n _ _=>k b u (d b n) q,fun b u q n _ _=>⟨_,k b u (d b n) q⟩,fun b u q n _=>by rw[upd_ne (f b n)];exact n,fun b u q _=>?_,
  fun b g q=>by rw[upd_ne (c b _ q fun z=>z)];exact q,fun b u g q=>by rw[upd_ne (c b _ q fun z=>z)];exact q,fun b _ q=>⟨#[],by rw[upd_ne (c b _ q fun z=>z),q];simp⟩⟩
 grind
theorem Un.mono(u:Un fs ex H H1 h h1)(hs:∀b∈fs,b∈fs') (hx:∀b∈ex,b∈ex'):Un fs' ex' H H1 h h1:=
 ⟨fun b c q n d a=>u.keep b c q n (fun z=>d (hs b z)) fun z=>a (hx b z),fun _ _ q n _ a=>u.any q n fun z=>a (hx _ z),fun b c q n a=>u.free b c q n fun z=>a (hx b z),fun b c q a=>u.there b c q fun z=>a (hx b z),u.tups,u.frzs,u.tbls⟩
end
def trk(h:Heap)(H:Hp):List Addr:=(List.range h.objs.size).filter fun a=>(H a).isSome
def hidT(h:Heap)(H:Hp):Heap:=PySem.W.hideAll h (trk h H)
theorem hidT_size(h)(H):(hidT h H).objs.size=h.objs.size:=PySem.W.hideAll_size _ _
theorem hidT_get{h}{H}{b}{o}(e:h.get? b=some o)(n:H b=none):(hidT h H).get? b=some o:=
 PySem.W.hideAll_get _ e fun a=>by
  have q:=(List.mem_filter.mp a).2
  rw[n]at q;simp at q
theorem of_hidT{h}{H}{b}{o}(e:(hidT h H).get? b=some o):h.get? b=some o/\H b=none:=by
 have c:=PySem.W.of_hideAll _ e
 refine⟨c,?_⟩
 cases q:H b with
 |none=>rfl
 |some x=>
  rw[(show(hidT h H).get? b=none from PySem.W.hideAll_none _ (show b∈trk h H from List.mem_filter.mpr ⟨List.mem_range.mpr (Heap.lt_size c),by simp[q]⟩))]at e;cases e
def allNews(g h:Heap)(L:Addr):List (Addr×Obj):=(List.range h.objs.size).filterMap fun a=>if a=L\/(g.get? a).isSome=true then none else(h.get? a).map fun o=>(a,o)
def rest(g h:Heap)(L d:Addr):List (Addr×Obj):=(allNews g h L).filter fun p=>decide (p.1≠d)
structure Mod(K:PySem.W.Frag)(mg:Str->Option Value)(base:Heap):Prop where
 kin:K.In base
 glob:base.Ns mainGlobals mg
 blt:∃mb,base.Ns builtinsNs mb/\∀x:Str,x≠"__name__"->mb x=bootBuiltins x
 nolimit:base.NoLimit
structure Cx where
 prog:Program
 w:World
 K:PySem.W.Frag
 mg:Str->Option Value
 base:Heap
 A:Around
 N:List Str
 s₀:Shared
 H₀:Hp
 env:Env
 outer:List Env
 stack:List Env
 ex:List Addr
 fn:Str->Bool
 calm:Bool
 pn:List (Addr×Obj)
 xe:Value->Shared->Prop
def frs(l:List Env):List Addr:=l.filterMap (·.frame)
abbrev Cx.fs(X:Cx):List Addr:=frs X.outer
def Vis(sc:Scope)(x:Str):Prop:=sc.names.lookup x=some .local\/sc.names.lookup x=some .cell\/sc.names.lookup x=some .free
def Loc(sc:Scope)(x:Str):Prop:=sc.names.lookup x=some .local\/sc.names.lookup x=some .cell
def Look(env:Env)(h:Heap)(m:Str->Option Value)(x:Str)(u:Value):Prop:=
 (env.kindOf x=some .local/\m x=some u)\/((env.kindOf x=some .cell\/env.kindOf x=some .free)/\∃c,env.cells.lookup x=some c/\h.IsCell c (some u))
structure Cx.Ok(X:Cx):Prop where
 mod:Mod X.K X.mg X.base
 kind:X.env.scope.kind= .function
 glob:X.env.globals=mainGlobals
 blt:X.env.builtins=builtinsNs
 above:X.s₀.heap.objs.size<=X.env.locals
 inj:∀x y c,X.env.cells.lookup x=some c->X.env.cells.lookup y=some c->x=y
 has:∀x,(X.env.kindOf x=some .cell\/X.env.kindOf x=some .free)->∃c,X.env.cells.lookup x=some c
 cab:∀x c,X.fn x=true->X.env.cells.lookup x=some c->X.s₀.heap.objs.size<=c
 hd:X.calm=true->X.A.handled=none
 frames:X.A.frames=some X.stack
 stk:X.stack=X.outer\/(X.stack=X.env::X.outer/\X.env.frame=some X.env.locals)
 exf:∀b∈X.ex,b≠X.env.locals/\∀x c,X.env.cells.lookup x=some c->c≠b
 bs:∀b o,X.base.get? b=some o->X.s₀.heap.get? b=some o/\X.H₀ b=none
 bsz:X.base.objs.size<=X.s₀.heap.objs.size
 noex:∀b o,X.base.get? b=some o->b ∉ X.ex
 exfs:∀b∈X.ex,b ∉ X.fs
 funs:X.s₀.heap.FunFrames X.base X.outer
 frf:∀b∈X.fs,X.H₀ b=none
structure Inv(X:Cx)(pins:List (Addr×Obj))(σ:List (Option V))(H:Hp)(s:Shared):Prop where
 ok:X.Ok
 os:s.os=X.s₀.os
 bare:AllBare s.gens
 base:Un X.fs X.ex X.H₀ H X.s₀.heap s.heap
 loc:∃m,s.heap.Ns X.env.locals m/\∀(i:Nat)(x:Str)(v:V),X.N[i]?=some x->σ[i]?=some (some v)->Vis X.env.scope x->∃u,RelV v u/\Look X.env s.heap m x u
 cell:∀x c,X.env.cells.lookup x=some c->∃v,s.heap.IsCell c v
 free:H X.env.locals=none
 freeC:∀x c,X.env.cells.lookup x=some c->H c=none
 pin:∀p∈X.pn++pins,s.heap.get? p.1=some p.2/\H p.1=none/\p.1≠X.env.locals/\p.1 ∉ X.fs/\∀v,p.2.data≠.cell v
 hok:HOk X.prog X.w H s.heap
 len:σ.length=X.N.length
section
variable{X:Cx}{pins:List (Addr×Obj)}{σ:List (Option V)}{H H':Hp}{s:Shared}{h':Heap}
theorem Cx.Ok.nofr(ok:X.Ok){b}{o}(e:X.base.get? b=some o):b ∉ X.fs:=fun a=>by
 have:=(ok.funs.mem a).1
 grind
theorem Inv.bs(I:Inv X pins σ H s):∀b o,X.base.get? b=some o->s.heap.get? b=some o/\H b=none:=fun b o e=>
 ⟨I.base.keep b o (I.ok.bs b o e).1 (I.ok.bs b o e).2 (I.ok.nofr e) (I.ok.noex b o e),I.base.free b o (I.ok.bs b o e).1 (I.ok.bs b o e).2 (I.ok.noex b o e)⟩
theorem Inv.bk(I:Inv X pins σ H s):∀b o,X.base.get? b=some o->s.heap.get? b=some o:=fun b o e=>(I.bs b o e).1
theorem Inv.mod(I:Inv X pins σ H s):Mod X.K X.mg X.base:=I.ok.mod
theorem Inv.kIn(I:Inv X pins σ H s):X.K.In s.heap:=I.ok.mod.kin.keeps I.bk
theorem Inv.nolimit(I:Inv X pins σ H s):s.heap.NoLimit:=I.ok.mod.nolimit.keeps I.bk
theorem Inv.fr(I:Inv X pins σ H s):∃m,Fr X.base X.env.locals s.heap m:=
 let⟨m,a,_⟩:=I.loc
 ⟨m,a,I.bk,Nat.le_trans I.ok.bsz I.ok.above⟩
theorem Inv.lt(I:Inv X pins σ H s):X.env.locals<s.heap.objs.size:=let⟨_,a,_⟩:=I.loc;a.lt
theorem Inv.sz(I:Inv X pins σ H s):X.s₀.heap.objs.size<=s.heap.objs.size:=Nat.le_trans I.ok.above (Nat.le_of_lt I.lt)
theorem Inv.nofs(I:Inv X pins σ H s){a:Addr}(h:s.heap.objs.size<=a):a ∉ X.fs:=fun c=>by
 obtain⟨_,o,b,_⟩:=I.ok.funs.mem c
 exact absurd (Nat.lt_of_lt_of_le (Heap.lt_size b) (Nat.le_trans I.sz h)) (Nat.lt_irrefl _)
theorem Inv.cne(I:Inv X pins σ H s):∀x c,X.env.cells.lookup x=some c->c≠X.env.locals:=fun x c e z=>by
 obtain⟨v,o,_,_⟩:=I.cell x c e
 obtain⟨m,⟨_,_,_,_,_,_⟩,_⟩:=I.loc
 simp_all
theorem Inv.funs(I:Inv X pins σ H s):s.heap.FunFrames X.base X.outer:=by
 have d:∀(l),(∀b∈frs l,b∈X.fs)->X.s₀.heap.FunFrames X.base l->s.heap.FunFrames X.base l:=by
  intro l
  induction l with
  |nil=>intro _ _;trivial
  |_ _ r m=>
   intro g p
   obtain⟨n,⟨L,o,f,k,h,i⟩,j⟩:=p
   have a:=g L (by unfold frs;simp_all)
   obtain⟨_,e⟩:=I.base.slot L o h (I.ok.frf L a) a fun z=>I.ok.exfs L z a
   exact⟨n,⟨L,_,f,k,e,i⟩,m (fun b c=>g b (by unfold frs;rw[List.filterMap_cons,f];exact List.mem_cons_of_mem _ c)) j⟩
 exact d _ (fun _ c=>c) I.ok.funs
theorem Inv.stack(I:Inv X pins σ H s):s.heap.FunFrames X.base X.stack:=by
 rcases I.ok.stk with e|⟨e,b⟩
 ·rw[e];exact I.funs
 ·rw[e]
  obtain⟨m,a,_⟩:=I.loc
  exact .cons (by rw[I.ok.kind];decide) b a (Heap.get?_none_of_le (Nat.le_trans I.ok.bsz I.ok.above)) I.funs
theorem Inv.stkSub(I:Inv X pins σ H s):∀b∈frs X.stack,b∈X.env.locals::X.fs:=fun b a=>by
 rcases I.ok.stk with e|⟨e,c⟩
 ·simp_all
 ·rw[e]at a
  unfold frs at a
  rw[List.filterMap_cons,c]at a
  exact a
theorem Inv.stkFree(I:Inv X pins σ H s):∀b∈frs X.stack,H b=none:=fun b a=>by
 rcases List.mem_cons.mp (I.stkSub b a)with e|a
 ·rw[e];exact I.free
 ·obtain⟨_,o,c,_⟩:=I.ok.funs.mem a
  exact I.base.free b o c (I.ok.frf b a) fun z=>I.ok.exfs b z a
theorem Inv.step{g'}{t'}{d'}{ch:List _}(I:Inv X pins σ H s)
  (hch:∀b∈ch,(b∈X.ex\/X.s₀.heap.objs.size<=b)/\b≠X.env.locals/\(∀x c,X.env.cells.lookup x=some c->c≠b)/\∀p∈X.pn++pins,p.1≠b)
  (keep:∀b o,b≠X.env.locals->b ∉ X.fs->b ∉ ch->s.heap.get? b=some o->H b=none->h'.get? b=some o)
  (slot:∀b o,b≠X.env.locals->b∈X.fs->b ∉ ch->s.heap.get? b=some o->H b=none->∃sl,h'.get? b=some {o with slots:=sl}) (free:∀b o,b ∉ ch->s.heap.get? b=some o->H b=none->H' b=none)
  (there:∀b o,b ∉ ch->s.heap.get? b=some o->∃o',h'.get? b=some o')
  (tups:∀b xs,H b=some (.tup xs)->H' b=some (.tup xs)) (frzs:∀b o u,H b=some (.frz o u)->H' b=some (.frz o u)) (tbls:∀b ps,H b=some (.tbl ps)->∃more,H' b=some (.tbl (ps++more)))
  (ns:∀m,s.heap.Ns X.env.locals m->h'.Ns X.env.locals m) (hok:HOk X.prog X.w H' h') (hg:AllBare g'):
  Inv X pins σ H' {s with heap:=h',gens:=g',drawn:=d',toks:=t'}:=by
 have B:∀b o,X.s₀.heap.get? b=some o->b≠X.env.locals:=fun b o e=>Nat.ne_of_lt (Nat.lt_of_lt_of_le (Heap.lt_size e) I.ok.above)
 have j:∀b o,X.s₀.heap.get? b=some o->b ∉ X.ex->b ∉ ch:=fun b o e a t=>by
  rcases(hch b t).1 with z|z
  ·exact a z
  ·exact absurd (Nat.lt_of_lt_of_le (Heap.lt_size e) z) (Nat.lt_irrefl _)
 have g:∀x c,X.env.cells.lookup x=some c->∀v,s.heap.IsCell c v->h'.IsCell c v:=fun x c e v⟨o,y,C⟩=>by
  have f:=fun z=>(hch c z).2.2.1 x c e rfl
  by_cases E:c∈X.fs
  ·obtain⟨sl,q⟩:=slot c o (I.cne x c e) E f y (I.freeC x c e)
   exact⟨_,q,C⟩
  ·exact⟨o,keep c o (I.cne x c e) E f y (I.freeC x c e),C⟩
 refine⟨I.ok,I.os,hg,⟨fun b o e n t a=>?_,fun b o e n t a=>?_,fun b o e n a=>?_,fun b o e a=>?_,fun b xs e=>tups b xs (I.base.tups b xs e),fun b o xs e=>frzs b o xs (I.base.frzs b o xs e),fun b ps e=>?_⟩,?_,fun x c e=>?_,?_,fun x c e=>?_,fun p J=>?_,hok,I.len⟩
 ·exact keep b o (B b o e) t (j b o e a) (I.base.keep b o e n t a) (I.base.free b o e n a)
 ·obtain⟨sl,h⟩:=I.base.slot b o e n t a
  obtain⟨D,A⟩:=slot b _ (B b o e) t (j b o e a) h (I.base.free b o e n a)
  exact⟨D,A⟩
 ·obtain⟨o',h⟩:=I.base.there b o e a
  exact free b o' (j b o e a) h (I.base.free b o e n a)
 ·obtain⟨o',h⟩:=I.base.there b o e a
  exact there b o' (j b o e a) h
 ·obtain⟨O,h⟩:=I.base.tbls b ps e
  obtain⟨N,A⟩:=tbls b _ h
  exact⟨O++N,by rw[A,Array.append_assoc]⟩
 ·obtain⟨m,L,M⟩:=I.loc
  refine⟨m,ns m L,fun i x v h A K=>?_⟩
  obtain⟨u,r,l⟩:=M i x v h A K
  refine⟨u,r,?_⟩
  rcases l with l|⟨k,c,e,z⟩
  ·exact .inl l
  ·exact .inr ⟨k,c,e,g x c e _ z⟩
 ·obtain⟨v,z⟩:=I.cell x c e
  exact⟨v,g x c e v z⟩
 ·obtain⟨m,⟨o,_,_,y,_⟩,_⟩:=I.loc
  exact free _ o (fun z=>(hch _ z).2.1 rfl) y I.free
 ·obtain⟨v,o,y,C⟩:=I.cell x c e
  exact free c o (fun z=>(hch c z).2.2.1 x c e rfl) y (I.freeC x c e)
 ·obtain⟨e,n,F,G,d⟩:=I.pin p J
  have f:=fun z=>(hch p.1 z).2.2.2 p J rfl
  exact⟨keep p.1 p.2 F G f e n,free p.1 p.2 f e n,F,G,d⟩
theorem Inv.un{t'}(I:Inv X pins σ H s)(u:Un X.fs [] H H' s.heap h')(hok:HOk X.prog X.w H' h'):Inv X pins σ H' {s with heap:=h',toks:=t'}:=by
 obtain⟨m,⟨o,_,_,d,r⟩,_⟩:=id I.loc
 obtain⟨_,h⟩:=u.any d I.free (by simp)
 exact I.step (ch:=[]) (fun _ z=>nomatch z) (fun b o _ c _ e n=>u.keep b o e n c (by simp)) (fun b o _ c _ e n=>u.slot b o e n c (by simp)) (fun b o _ e n=>u.free b o e n (by simp)) (fun b o _ e=>u.there b o e (by simp)) u.tups u.frzs u.tbls (fun _ f=>by
  obtain⟨_,_,_,a,g⟩:=f
  rw[d]at a;cases a
  exact⟨_,_,_,h,g⟩) hok I.bare
theorem Inv.call{g'}{t'}{d'}{ch}(I:Inv X pins σ H s)(u:Un (frs X.stack) ch H H' s.heap h')(hok:HOk X.prog X.w H' h')(hg:AllBare g')
  (hch:∀b∈ch,(b∈X.ex\/X.s₀.heap.objs.size<=b)/\b≠X.env.locals/\(∀x c,X.env.cells.lookup x=some c->c≠b)/\∀p∈X.pn++pins,p.1≠b):
  Inv X pins σ H' {s with heap:=h',gens:=g',drawn:=d',toks:=t'}:=by
 obtain⟨m,⟨o,_,_,g,r⟩,_⟩:=id I.loc
 obtain⟨_,f⟩:=u.any g I.free fun z=>(hch _ z).2.1 rfl
 exact I.step hch (fun b o f i a e n=>u.keep b o e n (fun z=>(List.mem_cons.mp (I.stkSub b z)).elim f i) a) (fun b o _ _ a e n=>u.any e n a) (fun b o a e n=>u.free b o e n a) (fun b o a e=>u.there b o e a) u.tups u.frzs u.tbls (fun _ h=>by
  obtain⟨_,_,_,d,j⟩:=h
  rw[g]at d;cases d
  exact⟨_,_,_,f,j⟩) hok hg
theorem Inv.turned{t'}{it}(I:Inv X pins σ H s)(k:∀b o,b≠it->s.heap.get? b=some o->h'.get? b=some o) (hn:H it=none) (hL:it≠X.env.locals)
  (h1:it∈X.ex\/X.s₀.heap.objs.size<=it) (h2:∀x c,X.env.cells.lookup x=some c->c≠it) (h3:∀p∈X.pn++pins,p.1≠it):Inv X pins σ H {s with heap:=h',toks:=t'}:=by
 refine I.step (ch:=[it]) (fun b h=>?_) (fun b o _ _ a e _=>k b o (fun z=>a (by simp[z])) e) (fun b o _ _ a e _=>⟨_,k b o (fun z=>a (by simp[z])) e⟩) (fun _ _ _ _ n=>n)
  (fun b o a e=>⟨o,k b o (fun z=>a (by simp[z])) e⟩) (fun _ _ e=>e) (fun _ _ _ e=>e) (fun b _ e=>⟨#[],by rw[e];simp⟩) (fun m d=>?_) (fun b u e=>?_) I.bare
 ·have e:b=it:=by simpa using h
  subst e
  exact⟨h1,hL,h2,h3⟩
 ·obtain⟨o,g,i,f,r⟩:=d
  exact⟨o,g,i,k _ o (Ne.symm hL) f,r⟩
 ·refine(I.hok b u e).stay (fun c v a q=>k c v ?_ q) (fun _ q=>q) fun _ _ q=>q
  grind
theorem Inv.tok(I:Inv X pins σ H s)(t):Inv X pins σ H {s with toks:=t}:=I.un Un.refl I.hok
theorem Inv.kept{t'}(I:Inv X pins σ H s)(k:∀b u,s.heap.get? b=some u->h'.get? b=some u):Inv X pins σ H {s with heap:=h',toks:=t'}:=I.un (Un.kept k) (I.hok.kept k)
theorem Inv.laid{a:Addr}{o}{t'}(I:Inv X pins σ H s)(k:∀b u,s.heap.get? b=some u->h'.get? b=some u) (hp:s.heap.objs.size<=a) (new:ObjOk X.prog X.w (upd H a o) h' a o):
  Inv X pins σ (upd H a o) {s with heap:=h',toks:=t'}:=I.un (Un.laid k hp (I.hok.fresh hp)) (I.hok.laid k hp new)
theorem Inv.write{x e}{o}{t'}(I:Inv X pins σ H s)(mu:Mut (H x))(he:e=x\/H e=some (.own x))(k:∀b u,b≠e->s.heap.get? b=some u->h'.get? b=some u) (heo:∃u,h'.get? e=some u)
  (new:ObjOk X.prog X.w (upd H x o) h' x o):Inv X pins σ (upd H x o) {s with heap:=h',toks:=t'}:=I.un (Un.write mu he k heo) (I.hok.write mu he k heo new)
theorem Inv.pins_of{pins':List _}(I:Inv X pins σ H s)(h:∀p∈pins',s.heap.get? p.1=some p.2/\H p.1=none/\p.1≠X.env.locals/\p.1 ∉ X.fs/\∀v,p.2.data≠.cell v):Inv X pins' σ H s:=
 ⟨I.ok,I.os,I.bare,I.base,I.loc,I.cell,I.free,I.freeC,fun p a=>(List.mem_append.mp a).elim (fun z=>I.pin p (List.mem_append_left _ z)) (h p),I.hok,I.len⟩
theorem nodup_ix{N:List Str}(hN:N.Nodup){i j:Nat}{x}(a:N[i]?=some x)(b:N[j]?=some x):i=j:=by
 obtain⟨_,d⟩:=List.getElem?_eq_some_iff.mp a
 obtain⟨_,c⟩:=List.getElem?_eq_some_iff.mp b
 exact(List.getElem_inj hN).mp (d.trans c.symm)
theorem store_ok2{M}{A}{E}{i}{x}{v}{u}{Q}(I:Inv X pins σ H s)(hN:X.N.Nodup)(hi:X.N[i]?=some x)(hx:Loc X.env.scope x)(r:RelV v u)
  (h:∀s',Inv X pins (σ.set i (some v)) H s'->(∃a,Heap.SameBut a s.heap s'.heap/\(a=X.env.locals\/X.env.cells.lookup x=some a))->Q () s') (hf:X.fn x=true\/X.env.scope.names.lookup x=some .local:=by first|exact .inl rfl|exact .inr rfl|assumption):wpAny M A (storeName X.env x u) Q E s:=by
 obtain⟨m,hn,hl⟩:=id I.loc
 have T:i<σ.length:=by rw[I.len];exact(List.getElem?_eq_some_iff.mp hi).1
 have J:=I.cne
 have t:∀{a}{L},(∃o,s.heap.get? a=some o/\H a=none)->Heap.SameBut a _ L->HOk _ _ H L:=fun{a L} ha g b ob e=>by
  obtain⟨_,_,B⟩:=ha
  refine(I.hok b ob e).stay (fun c W w q=>(g.2 c ?_).trans q) (fun _ q=>q) fun _ _ q=>q
  rintro rfl
  rcases w with rfl|w
  ·rw[B]at e;cases e
  ·rw[B]at w;cases w
 rcases hx with D|D
 ·refine wpAny_storeName_local D hn (fun L a1 g=>?_) (show(X.env.scope.kind== .class||(X.env.scope.kind== .module&&X.env.locals !=X.env.globals))=_ by rw[I.ok.kind];rfl)
  obtain⟨oL,_,_,a2,_⟩:=id hn
  refine h _ ⟨I.ok,I.os,I.bare,⟨fun b o e n F hx=>?_,fun b o e n F hx=>?_,I.base.free,fun b o e hx=>?_,I.base.tups,I.base.frzs,I.base.tbls⟩,⟨_,a1,fun j y v' l C Z=>?_⟩,fun y c e=>?_,I.free,I.freeC,fun p Y=>?_,t ⟨oL,a2,I.free⟩ g,by simpa using I.len⟩ ⟨_,g,.inl rfl⟩
  ·exact(g.2 b (Nat.ne_of_lt (Nat.lt_of_lt_of_le (Heap.lt_size e) I.ok.above))).trans (I.base.keep b o e n F hx)
  ·obtain⟨sl,l⟩:=I.base.slot b o e n F hx
   exact⟨sl,(g.2 b (Nat.ne_of_lt (Nat.lt_of_lt_of_le (Heap.lt_size e) I.ok.above))).trans l⟩
  ·obtain⟨o',l⟩:=I.base.there b o e hx
   exact⟨o',(g.2 b (Nat.ne_of_lt (Nat.lt_of_lt_of_le (Heap.lt_size e) I.ok.above))).trans l⟩
  ·by_cases G:j=i
   ·subst G
    rw[hi]at l;cases l
    rw[List.getElem?_set_self T]at C
    cases C
    exact⟨u,r,.inl ⟨D,by simp⟩⟩
   ·rw[List.getElem?_set_ne (Ne.symm G)]at C
    obtain⟨u',r',q⟩:=hl j y v' l C Z
    refine⟨u',r',?_⟩
    rcases q with⟨k,e⟩|⟨k,c,e,z⟩
    ·refine .inl ⟨k,?_⟩
     have:y≠x:=fun e=>G (nodup_ix hN l (e▸hi))
     simp[this,e]
    ·exact .inr ⟨k,c,e,z.sameBut g (J y c e)⟩
  ·obtain⟨W,z⟩:=I.cell y c e
   exact⟨W,z.sameBut g (J y c e)⟩
  ·obtain⟨e,n,V,nf,d⟩:=I.pin p Y
   exact⟨(g.2 p.1 V).trans e,n,V,nf,d⟩
 ·have K:X.fn x=true:=by
   rcases hf with z|z
   ·exact z
   ·rw[z]at D;cases D
  obtain⟨c,w⟩:=I.ok.has x (.inl D)
  obtain⟨W,z⟩:=I.cell x c w
  refine wpAny_storeName_cell I.ok.kind D w z (fun L P g=>?_)
  obtain⟨oc,O,R⟩:=id z
  refine h {s with heap:=L} ⟨I.ok,I.os,I.bare,⟨fun b o e n F hx=>?_,fun b o e n F hx=>?_,I.base.free,fun b o e hx=>?_,I.base.tups,I.base.frzs,I.base.tbls⟩,⟨m,hn.sameBut g (Ne.symm (J x c w)),fun j y v' l C Z=>?_⟩,fun y U e=>?_,I.free,I.freeC,fun p Y=>?_,t ⟨oc,O,I.freeC x c w⟩ g,by simpa using I.len⟩ ⟨c,g,.inr w⟩
  ·exact(g.2 b (Nat.ne_of_lt (Nat.lt_of_lt_of_le (Heap.lt_size e) (I.ok.cab x c K w)))).trans (I.base.keep b o e n F hx)
  ·obtain⟨sl,l⟩:=I.base.slot b o e n F hx
   exact⟨sl,(g.2 b (Nat.ne_of_lt (Nat.lt_of_lt_of_le (Heap.lt_size e) (I.ok.cab x c K w)))).trans l⟩
  ·obtain⟨o',l⟩:=I.base.there b o e hx
   exact⟨o',(g.2 b (Nat.ne_of_lt (Nat.lt_of_lt_of_le (Heap.lt_size e) (I.ok.cab x c K w)))).trans l⟩
  ·by_cases G:j=i
   ·subst G
    rw[hi]at l;cases l
    rw[List.getElem?_set_self T]at C
    cases C
    exact⟨u,r,.inr ⟨.inl D,c,w,P⟩⟩
   ·rw[List.getElem?_set_ne (Ne.symm G)]at C
    obtain⟨u',r',q⟩:=hl j y v' l C Z
    refine⟨u',r',?_⟩
    rcases q with q|⟨k,U,e,z'⟩
    ·exact .inl q
    ·refine .inr ⟨k,U,e,z'.sameBut g ?_⟩
     rintro rfl
     exact G (nodup_ix hN l (I.ok.inj _ _ _ e w▸hi))
  ·by_cases S:U=c
   ·subst S;exact⟨_,P⟩
   ·obtain⟨w2,z2⟩:=I.cell y U e
    exact⟨w2,z2.sameBut g S⟩
  ·obtain⟨e,n,V,nf,d⟩:=I.pin p Y
   refine⟨(g.2 p.1 ?_).trans e,n,V,nf,d⟩
   intro q
   rw[q,O]at e
   exact d W (by rw[<-(Option.some.inj e)];exact R)
theorem store_ok{M}{A}{E}{i}{x}{v}{u}{Q}(I:Inv X pins σ H s)(hN:X.N.Nodup)(hi:X.N[i]?=some x)(hx:Loc X.env.scope x)(r:RelV v u)
  (h:∀s',Inv X pins (σ.set i (some v)) H s'->Q () s') (hf:X.fn x=true\/X.env.scope.names.lookup x=some .local:=by first|exact .inl rfl|exact .inr rfl|assumption):wpAny M A (storeName X.env x u) Q E s:=
 store_ok2 I hN hi hx r (fun s' a _=>h s' a) hf
theorem Inv.call'{s'}{ch}(I:Inv X pins σ H s)(ho:s'.os=s.os)(u:Un (frs X.stack) ch H H' s.heap s'.heap)(hok:HOk X.prog X.w H' s'.heap)(hg:AllBare s'.gens)
  (hch:∀b∈ch,(b∈X.ex\/X.s₀.heap.objs.size<=b)/\b≠X.env.locals/\(∀x c,X.env.cells.lookup x=some c->c≠b)/\∀p∈X.pn++pins,p.1≠b):Inv X pins σ H' s':=by
 obtain⟨_,_,_,_,_⟩:=s'
 subst ho
 exact I.call u hok hg hch
end
abbrev XK:=Value->Option Addr->Hp->Prop
abbrev St:=List (Option V)
abbrev VK:=V->Hp->Prop
abbrev TE:=St->Hp->VK->Prop
abbrev TT:=St->Hp->(Bool->Hp->Prop)->Prop
abbrev TA:=St->Hp->(List V->Hp->Prop)->Prop
structure Ends where
 nx:St->Hp->Prop
 rt:VK
 bk:St->Hp->Prop:=fun _ _=>False
 ct:St->Hp->Prop:=fun _ _=>False
abbrev TS:=Ends->St->Hp->Prop
def EP(X:Cx)(pins:List (Addr×Obj))(σ:St)(Q:VK)(u:Value)(s':Shared):Prop:=∃v H',Inv X pins σ H' s'/\RelV v u/\Q v H'
def TP(X:Cx)(pins:List (Addr×Obj))(σ:St)(Q:Bool->Hp->Prop)(b:Bool)(s':Shared):Prop:=∃H',Inv X pins σ H' s'/\Q b H'
def AP(X:Cx)(pins:List (Addr×Obj))(σ:St)(Q:List V->Hp->Prop)(us:List Value)(s':Shared):Prop:=∃vs H',Inv X pins σ H' s'/\Vals vs us/\Q vs H'
def SP(X:Cx)(pins:List (Addr×Obj))(D:Ends)(f:Flow)(s':Shared):Prop:=
 match f with
 | .next=>∃σ' H',Inv X pins σ' H' s'/\D.nx σ' H'
 | .brk=>∃σ' H',Inv X pins σ' H' s'/\D.bk σ' H'
 | .cont=>∃σ' H',Inv X pins σ' H' s'/\D.ct σ' H'
 | .ret u=>∃v σ' H',Inv X pins σ' H' s'/\RelV v u/\D.rt v H'
def PE(X:Cx)(e:Expr)(t:TE):Prop:=
 ∀(pins)(s)(σ:St)(H)(Q),Inv X pins σ H s->t σ H Q->wpAny (model X.prog X.w) X.A (eval e X.env) (EP X pins σ Q) X.xe s
def PT(X:Cx)(e:Expr)(t:TT):Prop:=
 ∀(pins)(s)(σ:St)(H)(Q),Inv X pins σ H s->t σ H Q->wpAny (model X.prog X.w) X.A (isTrue e X.env (eval e X.env)) (TP X pins σ Q) X.xe s
def PW(X:Cx)(e:Expr)(t:TT):Prop:=
 ∀(whole)(pins)(s)(σ:St)(H)(Q),Inv X pins σ H s->t σ H Q->wpAny (model X.prog X.w) X.A (isTrue e X.env whole) (TP X pins σ Q) X.xe s
theorem PW.pt{X}{e}{t}(h:PW X e t):PT X e t:=h _
def PA(X:Cx)(es:List Expr)(t:TA):Prop:=
 ∀(pos)(pins)(s)(σ:St)(H)(Q),Inv X pins σ H s->t σ H Q->wpAny (model X.prog X.w) X.A (spliced (backTo pos (starEach es X.env))) (AP X pins σ Q) X.xe s
def PS(X:Cx)(st:Stmt)(t:TS):Prop:=
 ∀(pins)(s)(σ:St)(H)(D),Inv X pins σ H s->t D σ H->wpAny (model X.prog X.w) X.A (exec st X.env) (SP X pins D) X.xe s
def PSs(X:Cx)(st:List Stmt)(t:TS):Prop:=
 ∀(pins)(s)(σ:St)(H)(D),Inv X pins σ H s->t D σ H->wpAny (model X.prog X.w) X.A (execs st X.env) (SP X pins D) X.xe s
theorem thn{α}{t}{Q Q':α->Shared->Prop}{M}{A}{E}{s}(h:wpAny M A t Q E s)(hQ:∀a s,Q a s->Q' a s):wpAny M A t Q' E s:=wpAny_mono h hQ fun _ _ x=>x
section
variable{X:Cx}
theorem bin{a b}{ta tb}(ha:PE X a ta)(hb:PE X b tb){pins}{s}{σ:St}{H}{R:V->V->Hp->Prop}(I:Inv X pins σ H s)(h:ta σ H fun x H1=>tb σ H1 fun y H2=>R x y H2)
  {α} {Q} {f:Value->Value->Sem α}
  (hf:∀v u s2 x y H2,Inv X pins σ H2 s2->RelV x v->RelV y u->R x y H2->wpAny (model X.prog X.w) X.A (f v u) Q X.xe s2):
  wpAny (model X.prog X.w) X.A (eval a X.env) (fun v s₁=>wpAny (model X.prog X.w) X.A (eval b X.env) (fun u s₂=>wpAny (model X.prog X.w) X.A (f v u) Q X.xe s₂) X.xe s₁) X.xe s:=thn (ha pins s σ H _ I h) fun v d⟨x,H1,j,i,k⟩=>thn (hb pins d σ H1 _ j k) fun u s2⟨y,H2,g,e,c⟩=>hf v u s2 x y H2 g i e c
inductive tVar(i:Nat)(σ:St)(H:Hp)(Q:VK):Prop
 |mk (v:_) (_:σ[i]?=some (some v)) (_:Q v H)
def tC(v:V):TE:=fun _ H Q=>Q v H
theorem pe_var{i}{x}{pos}(hN:X.N[i]?=some x)(hv:Vis X.env.scope x)(hd:(x==("__debug__":Str))=false:=by decide)(hcd:(x==("__classdict__":Str))=false:=by decide):PE X (.Name x pos) (tVar i):=by
 intro _ s σ H Q I h
 obtain⟨v,e,h⟩:=h
 obtain⟨m,k,j⟩:=I.loc
 obtain⟨u,r,l⟩:=j i x v hN e hv
 have d:EP X _ σ Q u s:=⟨v,H,I,r,h⟩
 rcases l with⟨b,g⟩|⟨b,c,f,a⟩
 ·exact wpAny_Name (wpAny_loadName_local I.ok.kind b k g d) hd
 ·rcases b with b|b
  ·exact wpAny_Name (wpAny_loadName_cell I.ok.kind b f a d) hd
  ·exact wpAny_Name (wpAny_loadName_free I.ok.kind b f a d hcd) hd
theorem pe_int{i j pos}:PE X (.Constant (.int i) j pos) (tC (.int i)):=fun _ _ _ H _ I h=>wpAny_Constant_int ⟨.int i,H,I.tok _,⟨_,rfl⟩,h⟩
theorem pe_bl{b j pos}:PE X (.Constant (.bool b) j pos) (tC (.bl b)):=fun _ _ _ H _ I h=>Constant_bool ⟨.bl b,H,I,rfl,h⟩
theorem pe_non{j pos}:PE X (.Constant .none j pos) (tC .non):=fun _ _ _ H _ I h=>Constant_none ⟨.non,H,I,rfl,h⟩
theorem pe_str{x j pos}:PE X (.Constant (.str x) j pos) (tC (.str x)):=fun _ _ _ H _ I h=>Calls.Constant_str ⟨.str x,H,I.tok _,⟨_,rfl⟩,h⟩
def Gl(X:Cx)(x:Str):Prop:=X.env.kindOf x=some .globalImplicit
theorem ld_glob{E}{pins}{s}{σ:St}{H}{x}{u}{pos}{Q}(I:Inv X pins σ H s)(hg:Gl X x)(hm:X.mg x=some u)(h:Q u s)
  (hd:(x==("__debug__":Str))=false:=by decide):wpAny (model X.prog X.w) X.A (eval (.Name x pos) X.env) Q E s:=
 Calls.Name_function_global I.ok.kind hg (Calls.loadGlobal_global (by rw[I.ok.glob];exact I.mod.glob.keeps I.bk) hm h) hd
theorem ld_blt{E}{pins}{s}{σ:St}{H}{x}{u}{pos}{Q}(I:Inv X pins σ H s)(hg:Gl X x)(hm:X.mg x=none)(hv:bootBuiltins x=some u)(h:Q u s)
  (hn:x≠"__name__":=by decide)(hd:(x==("__debug__":Str))=false:=by decide):wpAny (model X.prog X.w) X.A (eval (.Name x pos) X.env) Q E s:=by
 obtain⟨_,b,c⟩:=I.mod.blt
 exact Calls.Name_function_global I.ok.kind hg (Calls.loadGlobal_builtin (by rw[I.ok.glob];exact I.mod.glob.keeps I.bk) hm (by rw[I.ok.blt];exact b.keeps I.bk) ((c x hn).trans hv) h) hd
theorem pe_glob{x}{v}{u}{pos}(hg:Gl X x)(hm:X.mg x=some u)(r:RelV v u)(hd:(x==("__debug__":Str))=false:=by decide):PE X (.Name x pos) (tC v):=
 fun _ _ _ H _ I h=>ld_glob I hg hm ⟨v,H,I,r,h⟩ hd
theorem pe_bltn{x}{v}{u}{pos}(hg:Gl X x)(hm:X.mg x=none)(hv:bootBuiltins x=some u)(r:RelV v u)(hn:x≠"__name__":=by decide)(hd:(x==("__debug__":Str))=false:=by decide):PE X (.Name x pos) (tC v):=
 fun _ _ _ H _ I h=>ld_blt I hg hm hv ⟨v,H,I,r,h⟩ hn hd
variable{a b:Expr}{ta tb:TE}{pos:Pos}
def PC(X:Cx)(op:CmpOp)(a b:Expr)(t:TE):Prop:=
 ∀(pins)(s)(σ:St)(H)(Q),Inv X pins σ H s->t σ H Q->
  wpAny (model X.prog X.w) X.A (eval a X.env) (fun v s₁=>wpAny (model X.prog X.w) X.A (eval b X.env) (fun u s₂=>wpAny (model X.prog X.w) X.A (compareOp op v u) (EP X pins σ Q) X.xe s₂) X.xe s₁) X.xe s
theorem nobehind(b){op}(h:op≠.In)(h2:op≠.NotIn):behindInMarks op b=false:=by
 cases b<;>simp[behindInMarks,(show(op==CmpOp.In)=false by grind),(show(op==CmpOp.NotIn)=false by grind)]
def tB(t:TE):TT:=fun σ H Q=>t σ H fun x H1=>∃c,x= .bl c/\Q c H1
theorem pt_cmp{op}{t}(h:PC X op a b t)(h1:behindInMarks op b=false:=by first|exact nobehind _ (by decide) (by decide)|rfl):PT X (.Compare a [op] [b] pos) (tB t):=by
 refine fun e s σ H Q I j=>wpAny_isTrue_Compare1 (thn (h e s σ H _ I j) fun v _ h1=>thn h1 fun u _ l=>thn l fun c _ xq1=>?_) h1
 obtain⟨x,f,i,g,k⟩:=xq1
 obtain⟨d,rfl,q⟩:=k
 cases g
 exact wpAny_truthy_bool ⟨f,i,q⟩
theorem pt_val{e}{t}(h:PE X e t)(he:∀whole,isTrue e X.env whole=(do let v<-whole;standAt e.pos;holding [v] (truthy v)):=by intro _;rfl):PT X e (tB t):=by
 refine fun a s σ H Q I c=>isTrue_plain (thn (h a s σ H _ I c) fun v _ xq1=>?_) (he _)
 obtain⟨x,i,b,f,g⟩:=xq1
 obtain⟨d,rfl,q⟩:=g
 cases f
 exact wpAny_truthy_bool ⟨i,b,q⟩
variable{tA tB':TT}{rest:List Expr}
def tAnd(t u:TT):TT:=fun σ H Q=>t σ H fun c H1=>if c=true then u σ H1 Q else Q false H1
def tOr(t u:TT):TT:=fun σ H Q=>t σ H fun c H1=>if c=true then Q true H1 else u σ H1 Q
def tNot(t:TT):TT:=fun σ H Q=>t σ H fun c H1=>Q (!c) H1
theorem pw_and1(ha:PT X a tA):PW X (.BoolOp .And [a] pos) tA:=by
 refine fun _ b s σ H Q I h=>isTrue_and (thn (ha b s σ H Q I h) fun c _ e=>?_)
 cases c with
 |true=>exact isTrue_and_nil e
 |_=>exact e
theorem pw_or1(ha:PT X a tA):PW X (.BoolOp .Or [a] pos) tA:=by
 refine fun _ b s σ H Q I h=>isTrue_or (thn (ha b s σ H Q I h) fun c _ e=>?_)
 cases c with
 |false=>exact isTrue_or_nil e
 |_=>exact e
theorem pw_and(ha:PT X a tA)(hb:PW X (.BoolOp .And (b::rest) pos) tB'):PW X (.BoolOp .And (a::b::rest) pos) (tAnd tA tB'):=by
 refine fun i d s σ H Q I h=>isTrue_and (thn (ha d s σ H _ I h) fun c j xq1=>?_)
 obtain⟨e,g,f⟩:=xq1
 cases c with
 |true=>exact hb i _ j σ e Q g f
 |_=>exact⟨e,g,f⟩
theorem pw_or(ha:PT X a tA)(hb:PW X (.BoolOp .Or (b::rest) pos) tB'):PW X (.BoolOp .Or (a::b::rest) pos) (tOr tA tB'):=by
 refine fun i d s σ H Q I h=>isTrue_or (thn (ha d s σ H _ I h) fun c j xq1=>?_)
 obtain⟨e,g,f⟩:=xq1
 cases c with
 |true=>exact⟨e,g,f⟩
 |_=>exact hb i _ j σ e Q g f
theorem pt_not(ha:PT X a tA):PT X (.UnaryOp .Not a pos) (tNot tA):=fun _ s σ H Q I h=>isTrue_not (ha _ s σ H (fun c b=>Q _ b) I h)
def tAndV(ta tb:TE):TE:=fun σ H Q=>ta σ H fun x H1=>∃c,x= .bl c/\if c=true then tb σ H1 Q else Q (.bl false) H1
def tOrV(ta tb:TE):TE:=fun σ H Q=>ta σ H fun x H1=>∃c,x= .bl c/\if c=true then Q (.bl true) H1 else tb σ H1 Q
def tNotV(ta:TE):TE:=fun σ H Q=>ta σ H fun x H1=>∃c,x= .bl c/\Q (.bl (!c)) H1
theorem pe_one{op}{t}(h:PE X a t):PE X (.BoolOp op [a] pos) t:=fun b s σ H Q I c=>BoolOp_one (h b s σ H Q I c)
theorem pe_and(ha:PE X a ta)(hb:PE X (.BoolOp .And (b::rest) pos) tb):PE X (.BoolOp .And (a::b::rest) pos) (tAndV ta tb):=by
 refine fun e s σ H Q I h=>BoolOp_and (thn (ha e s σ H _ I h) fun v j xq1=>?_)
 obtain⟨x,i,g,k,f⟩:=xq1
 obtain⟨c,rfl,f⟩:=f
 cases k
 refine wpAny_truthy_bool ?_
 cases c with
 |true=>exact hb _ j σ i Q g f
 |false=>exact⟨.bl false,i,g,rfl,f⟩
theorem pe_or(ha:PE X a ta)(hb:PE X (.BoolOp .Or (b::rest) pos) tb):PE X (.BoolOp .Or (a::b::rest) pos) (tOrV ta tb):=by
 refine fun e s σ H Q I h=>BoolOp_or (thn (ha e s σ H _ I h) fun v j xq1=>?_)
 obtain⟨x,i,g,k,f⟩:=xq1
 obtain⟨c,rfl,f⟩:=f
 cases k
 refine wpAny_truthy_bool ?_
 cases c with
 |false=>exact hb _ j σ i Q g f
 |true=>exact⟨.bl true,i,g,rfl,f⟩
theorem pe_not(ha:PE X a ta):PE X (.UnaryOp .Not a pos) (tNotV ta):=by
 refine fun b s σ H Q I h=>UnaryOp_ (thn (ha b s σ H _ I h) fun v _ xq1=>?_)
 obtain⟨x,g,f,e,d⟩:=xq1
 obtain⟨c,rfl,d⟩:=d
 cases e
 exact not_of (wpAny_truthy_bool ⟨.bl (!c),g,f,rfl,d⟩)
def tIf(t:TT)(ta tb:TE):TE:=fun σ H Q=>t σ H fun c H1=>if c=true then ta σ H1 Q else tb σ H1 Q
theorem pe_ifExp{c}(hc:PT X c tA)(ha:PE X a ta)(hb:PE X b tb):PE X (.IfExp c a b pos) (tIf tA ta tb):=by
 refine fun e s σ H Q I h=>wpAny_IfExp (thn (hc e s σ H _ I h) fun d f xq1=>?_)
 obtain⟨i,j,g⟩:=xq1
 cases d with
 |true=>exact ha _ f σ i Q j g
 |_=>exact hb _ f σ i Q j g
end
def SqL(K:PySem.W.Frag)(H:Hp)(a:Addr)(xs:List V):Prop:=
 Rd H a (.lst xs)\/
  ∃(o:Obj)(its:Array Value)(n:Nat),K.lookup a=some o/\o.cls= .type "list"/\o.dict=none/\o.data= .seq its n/\its.size<=sizeLine/\Vals xs its.toList
def SqT(K:PySem.W.Frag)(H:Hp)(a:Addr)(xs:List V):Prop:=
 Rd H a (.tup xs)\/
  ∃(o:Obj)(its:Array Value)(n:Nat),K.lookup a=some o/\o.cls= .type "tuple"/\o.data= .seq its n/\its.size<=sizeLine/\Vals xs its.toList
def absV:Value->Option V
 | .none=>some .non
 | .bool b=>some (.bl b)
 | .int i _=>some (.int i)
 | .str x _=>some (.str x)
 | .bytes b _=>some (.byt b)
 | .float b _=>some (.flt b)
 | .ref a=>some (.ref a)
 | .type n=>some (.ty n)
 |_=>none
theorem RelV.abs{x}{u}(r:RelV x u):absV u=some x:=by
 cases x with
 |non=>cases r;rfl
 |bl _=>cases r;rfl
 |int _=>obtain⟨t,rfl⟩:=r;rfl
 |str _=>obtain⟨t,rfl⟩:=r;rfl
 |byt _=>obtain⟨t,rfl⟩:=r;rfl
 |flt _=>obtain⟨t,rfl⟩:=r;rfl
 |ref _=>cases r;rfl
 |_ _=>cases r;rfl
theorem RelV.inj{x y}{u}(r:RelV x u)(q:RelV y u):x=y:=Option.some.inj (r.abs.symm.trans q.abs)
theorem Vals.inj:∀{xs ys}{us},Vals xs us->Vals ys us->xs=ys
 |_,_,_,.nil,.nil=>rfl
 |_,_,_,.cons r t,.cons d c=>by rw[r.inj d,Vals.inj t c]
section
variable{X:Cx}{pins:List (Addr×Obj)}{σ:St}{H:Hp}{s:Shared}{a:Addr}{xs ys:List V}
theorem SqL.of{K}(h:H a=some (.lst xs)):SqL K H a xs:= .inl (.inl h)
theorem SqT.of{K}(h:H a=some (.tup xs)):SqT K H a xs:= .inl (.inl h)
theorem Inv.list(I:Inv X pins σ H s)(h:SqL X.K H a xs):∃its,Vals xs its/\PlainL s.heap a its.toArray/\xs.length<=sizeLine:=by
 rcases h with h|⟨o,its,n,b,c,f,d,_,r⟩
 ·obtain⟨z,its,n,r,e⟩:=h.ok I.hok
  exact⟨_,r,⟨_,n,e,rfl,rfl,rfl⟩,z⟩
 ·refine⟨_,r,⟨o,n,I.kIn a o b,c,f,by simpa using d⟩,?_⟩
  have e:=r.length
  simp_all
theorem Inv.tuple(I:Inv X pins σ H s)(h:SqT X.K H a xs):∃its,Vals xs its/\IsTup s.heap a its.toArray/\xs.length<=sizeLine:=by
 rcases h with h|⟨o,its,n,b,d,c,_,r⟩
 ·obtain⟨z,its,r,p⟩:=h.ok I.hok
  exact⟨_,r,p,z⟩
 ·refine⟨_,r,⟨o,I.kIn a o b,d,n,by simpa using c⟩,?_⟩
  have e:=r.length
  simp_all
theorem Inv.list_inj(I:Inv X pins σ H s)(h:SqL X.K H a xs)(h':SqL X.K H a ys):xs=ys:=by
 obtain⟨c,r,⟨o,n,e,_,_,d⟩,_⟩:=I.list h
 obtain⟨b,i,⟨_,_,f,_,_,g⟩,_⟩:=I.list h'
 rw[e]at f;cases f
 rw[d]at g
 injection g with _ _
 have:c=b:=by grind
 subst this
 exact r.inj i
theorem Inv.tuple_inj(I:Inv X pins σ H s)(h:SqT X.K H a xs)(h':SqT X.K H a ys):xs=ys:=by
 obtain⟨c,r,⟨o,e,_,n,d⟩,_⟩:=I.tuple h
 obtain⟨b,i,⟨_,f,_,_,g⟩,_⟩:=I.tuple h'
 rw[e]at f;cases f
 rw[d]at g
 injection g with _ _
 have:c=b:=by grind
 subst this
 exact r.inj i
end
abbrev Cx.wish(X:Cx)(E:Value->Shared->Prop):Cx:={X with xe:=E}
abbrev Cx.nox(X:Cx):Cx:=X.wish fun _ _=>False
theorem Cx.Ok.wish{X:Cx}(ok:X.Ok)(E:Value->Shared->Prop):(X.wish E).Ok:=
 ⟨ok.mod,ok.kind,ok.glob,ok.blt,ok.above,ok.inj,ok.has,ok.cab,ok.hd,ok.frames,ok.stk,ok.exf,ok.bs,ok.bsz,ok.noex,ok.exfs,ok.funs,ok.frf⟩
theorem Cx.Ok.unwish{X:Cx}{E:Value->Shared->Prop}(ok:(X.wish E).Ok):X.Ok:=
 ⟨ok.mod,ok.kind,ok.glob,ok.blt,ok.above,ok.inj,ok.has,ok.cab,ok.hd,ok.frames,ok.stk,ok.exf,ok.bs,ok.bsz,ok.noex,ok.exfs,ok.funs,ok.frf⟩
section
variable{X:Cx}{pins:List (Addr×Obj)}{σ:St}{H:Hp}{s:Shared}{E:Value->Shared->Prop}
theorem Inv.wish(I:Inv X pins σ H s)(E:Value->Shared->Prop):Inv (X.wish E) pins σ H s:=⟨I.ok.wish E,I.os,I.bare,I.base,I.loc,I.cell,I.free,I.freeC,I.pin,I.hok,I.len⟩
theorem Inv.unwish(I:Inv (X.wish E) pins σ H s):Inv X pins σ H s:=⟨I.ok.unwish,I.os,I.bare,I.base,I.loc,I.cell,I.free,I.freeC,I.pin,I.hok,I.len⟩
theorem SP.unwish{D}{f}{s'}(h:SP (X.wish E) pins D f s'):SP X pins D f s':=by
 cases f with
 |next=>obtain⟨b,a,I,q⟩:=h;exact⟨_,a,I.unwish,q⟩
 |brk=>obtain⟨b,a,I,q⟩:=h;exact⟨_,a,I.unwish,q⟩
 |cont=>obtain⟨b,a,I,q⟩:=h;exact⟨_,a,I.unwish,q⟩
 |ret u=>obtain⟨v,b,a,I,r,q⟩:=h;exact⟨v,_,a,I.unwish,r,q⟩
theorem PE.nox{e}{t}(h:PE X.nox e t):PE X e t:=fun a s σ H Q I d=>
 wpAny_mono (h a s σ H Q (I.wish _) d) (fun _ _⟨v,b,c,r,q⟩=>⟨v,b,c.unwish,r,q⟩) fun _ _ z=>False.elim z
theorem PT.nox{e}{t}(h:PT X.nox e t):PT X e t:=fun a s σ H Q I d=>
 wpAny_mono (h a s σ H Q (I.wish _) d) (fun _ _⟨b,c,q⟩=>⟨b,c.unwish,q⟩) fun _ _ z=>False.elim z
theorem PSs.nox{st}{t}(h:PSs X.nox st t):PSs X st t:=fun a s σ H D I b=>
 wpAny_mono (h a s σ H D (I.wish _) b) (fun _ _ q=>q.unwish) fun _ _ z=>False.elim z
end
section
variable{X:Cx}{st:Stmt}{rest:List Stmt}{t u:TS}{e:Expr}{te:TE}{pos:Pos}
def tNext:TS:=fun D σ H=>D.nx σ H
def tSeq(t u:TS):TS:=fun D σ H=>t {D with nx:=u D} σ H
theorem pss_nil:PSs X [] tNext:=fun _ _ σ H _ I h=>wpAny_execs_nil ⟨σ,H,I,h⟩
theorem pss_cons(h1:PS X st t)(h2:PSs X rest u):PSs X (st::rest) (tSeq t u):=by
 refine fun a s σ H D I h=>wpAny_execs_cons (thn (h1 a s σ H {D with nx:=u D} I h) fun f b q=>?_)
 cases f with
 |next=>
  obtain⟨_,d,c,q⟩:=q
  exact h2 _ b _ d D c q
 |ret v=>exact q
 |brk=>exact q
 |_=>exact q
theorem pss_one(h1:PS X st t):PSs X [st] t:=by
 refine fun a s σ H D I h=>wpAny_execs_cons (thn (h1 a s σ H D I h) fun f _ q=>?_)
 cases f with
 |next=>exact wpAny_execs_nil q
 |ret v=>exact q
 |brk=>exact q
 |_=>exact q
theorem Inv.quiet{pins}{σ:St}{H}{s}(I:Inv X pins σ H s):interactive X.env=false:=by simp[interactive,I.ok.kind]
def tDrop(te:TE):TS:=fun D σ H=>te σ H fun _ H1=>D.nx σ H1
theorem ps_expr(he:PE X e te)(hs:swapsWith e none pos.line X.env=pure false:=by rfl):PS X (.Expr e pos) (tDrop te):=fun a s σ H D I h=>wpAny_Expr_any (thn (he a s σ H _ I h) fun v _⟨x,c,b,_,d⟩=>⟨σ,c,b,d⟩) I.quiet hs
def tRet(te:TE):TS:=fun D σ H=>te σ H D.rt
theorem ps_ret(he:PE X e te):PS X (.Return (some e) pos) (tRet te):=fun a s σ H D I h=>wpAny_Return_some (thn (he a s σ H _ I h) fun v _⟨x,f,b,c,d⟩=>⟨x,σ,f,b,c,d⟩)
def tIfS(c:TT)(t u:TS):TS:=fun D σ H=>c σ H fun b H1=>if b=true then t D σ H1 else u D σ H1
theorem ps_if{c}{a b}{tc}(hc:PT X c tc)(ha:PSs X a t)(hb:PSs X b u):PS X (.If c a b pos) (tIfS tc t u):=by
 refine fun e s σ H D I h=>wpAny_If (thn (hc e s σ H _ I h) fun d f xq1=>?_)
 obtain⟨i,j,g⟩:=xq1
 cases d with
 |true=>exact ha _ f σ i D j g
 |_=>exact hb _ f σ i D j g
def tNever:TS:=fun _ _ _=>False
theorem pss_never{sts}:PSs X sts tNever:=fun _ _ _ _ _ _ h=>h.elim
end
abbrev TG:=V->St->Hp->(St->Hp->Prop)->Prop
abbrev TGs:=List V->St->Hp->(St->Hp->Prop)->Prop
def PG(X:Cx)(target:Expr)(t:TG):Prop:=
 ∀(pins:List (Addr×Obj))(s)(σ:St)(H)(v)(u)(Q:St->Hp->Prop),Inv X pins σ H s->RelV v u->t v σ H Q->
  wpAny (model X.prog X.w) X.A (assign target X.env u) (fun _ s'=>∃σ' H',Inv X pins σ' H' s'/\Q σ' H') X.xe s
def PGs(X:Cx)(ts:List Expr)(t:TGs):Prop:=
 ∀(pins:List (Addr×Obj))(s)(σ:St)(H)(vs:List V)(us:List Value)(Q:St->Hp->Prop),Inv X pins σ H s->Vals vs us->t vs σ H Q->
  wpAny (model X.prog X.w) X.A (assignInOrder ((assignEach ts X.env).map (·.2)) us) (fun _ s'=>∃σ' H',Inv X pins σ' H' s'/\Q σ' H') X.xe s
abbrev TSet:=V->V->V->Hp->(Hp->Prop)->Prop
def PSet(X:Cx)(t:TSet):Prop:=
 ∀(pins:List (Addr×Obj))(s)(σ:St)(H)(o i v)(ov iv u)(Q:Hp->Prop),Inv X pins σ H s->RelV o ov->RelV i iv->RelV v u->t o i v H Q->
  wpAny (model X.prog X.w) X.A (setItem ov iv u) (fun _ s'=>∃H',Inv X pins σ H' s'/\Q H') X.xe s
abbrev TIp:=V->V->Hp->VK->Prop
def PIp(X:Cx)(op:Operator)(t:TIp):Prop:=
 ∀(pins)(s)(σ:St)(H)(x y)(v u)(Q),Inv X pins σ H s->RelV x v->RelV y u->t x y H Q->
  wpAny (model X.prog X.w) X.A (inplaceOp op v u) (EP X pins σ Q) X.xe s
section
variable{X:Cx}{pos:Pos}
def gName(i:Nat):TG:=fun v σ H Q=>Q (σ.set i (some v)) H
theorem pg_name{i}{x}(hN:X.N.Nodup)(hi:X.N[i]?=some x)(hx:Loc X.env.scope x)(hf:X.fn x=true\/X.env.scope.names.lookup x=some .local:=by first|exact .inl rfl|exact .inr rfl|assumption):PG X (.Name x pos) (gName i):=fun _ s σ H v u Q I r h=>wpAny_assign_Name (store_ok I hN hi hx r (fun _ a=>⟨_,H,a,h⟩) hf)
def gNil:TGs:=fun vs σ H Q=>vs=[]/\Q σ H
def gCons(t:TG)(u:TGs):TGs:=fun vs σ H Q=>∃v r,vs=v::r/\t v σ H fun σ' H'=>u r σ' H' Q
theorem pgs_nil:PGs X [] gNil:=by
 intro _ s σ H _ _ Q I r h
 obtain⟨e,h⟩:=h
 subst e
 cases r
 exact assignInOrder_nil ⟨σ,H,I,h⟩
theorem pgs_cons{e}{es:List _}{t}{u}(h1:PG X e t)(h2:PGs X es u)
  (hs:(assignEach (e::es) X.env).map (·.2)=assign e X.env::(assignEach es X.env).map (·.2):=by rfl):PGs X (e::es) (gCons t u):=by
 intro a s σ H _ _ Q I r h
 obtain⟨v,_,c,h⟩:=h
 subst c
 cases r with
 |cons r i=>
  rw[hs]
  exact assignInOrder_cons (thn (h1 a s σ H _ _ _ I r h) fun _ b⟨_,f,d,g⟩=>h2 _ b _ f _ _ Q d i g)
def gTup(K:PySem.W.Frag)(n:Nat)(t:TGs):TG:=fun v σ H Q=>∃a xs,v= .ref a/\SqT K H a xs/\xs.length=n/\t xs σ H Q
theorem pg_tup{es:List _}{k}{t}{n}(hc:X.calm=true)(h:PGs X es t)
  (hn:(assignEach es X.env).length=n:=by rfl)(hst:(assignEach es X.env).findIdx? (·.1)=none:=by rfl):PG X (.Tuple es k pos) (gTup X.K n t):=by
 intro _ s σ H v u Q I r c
 obtain⟨a,l,i,f,g,c⟩:=c
 subst i
 cases r
 obtain⟨_,d,j,_⟩:=I.tuple f
 exact assign_Tuple_tuple (I.ok.hd hc) j (by simp[hn,<-g,d.length]) hst fun _ m=>h _ _ σ H l _ Q (I.kept fun b o e=>m b o (Nat.ne_of_lt (Heap.lt_size e)) e) (by simpa using d) c
def gSub(to ti:TE)(t:TSet):TG:=fun v σ H Q=>to σ H fun o H1=>ti σ H1 fun i H2=>t o i v H2 fun H3=>Q σ H3
theorem pg_sub{o i}{to ti}{t}(ho:PE X o to)(hi:PE X i ti)(hs:PSet X t)
  (ha:∀v,assign (.Subscript o i pos) X.env v=(do
   let ov<-holding [v] (eval o X.env)
   let iv<-holding [v,ov] (eval i X.env)
   standAt pos
   holding [v,ov,iv] (setItem ov iv v)
   release [v,ov,iv] []):=by intro _;rfl):PG X (.Subscript o i pos) (gSub to ti t):=fun a s σ H v u Q I r h=>wpAny_bind (wpAny_holding (thn (ho a s σ H _ I h) fun ov p⟨x,b,g,e,l⟩=>(wpAny_bind (wpAny_holding (thn (hi a p σ b _ g l) fun iv j⟨y,n,d,c,q⟩=>(wpAny_bind (wpAny_standAt (wpAny_bind (wpAny_holding (thn (hs a j σ n x y v ov iv u _ d e c r q) fun _ _⟨m,f,k⟩=>(wpAny_release ⟨σ,m,f,k⟩)))))))))))
def tAsg(te:TE)(g:TG):TS:=fun D σ H=>te σ H fun x H1=>g x σ H1 D.nx
theorem ps_asg{tg e}{te}{g}(he:PE X e te)(hg:PG X tg g)(hs:swapsWithSole [tg] e pos.line X.env=pure false:=by rfl)(hw:swappedStores [tg] e X.env=pure none:=by rfl)
  (h1:(assignEach [tg] X.env).map (·.2)=[assign tg X.env]:=by rfl):PS X (.Assign [tg] e pos) (tAsg te g):=by
 refine fun a s σ H D I h=>wpAny_Assign_stores (thn (he a s σ H _ I h) fun v c xq1=>?_) hs hw
 obtain⟨x,f,i,b,d⟩:=xq1
 rw[h1]
 exact thn (hg a c σ f x v _ i b d) fun _ _ q=>q
theorem ps_set{i}{x}{e}{te}{pos'}(hN:X.N.Nodup)(hi:X.N[i]?=some x)(hx:Loc X.env.scope x)(he:PE X e te)(hs:swapsWith e (some (.Name x pos')) pos.line X.env=pure false:=by rfl)(hf:X.fn x=true\/X.env.scope.names.lookup x=some .local:=by first|exact .inl rfl|exact .inr rfl|assumption):
  PS X (.Assign [.Name x pos'] e pos) (tAsg te (gName i)):=fun a s σ H D I h=>wpAny_Assign_Name (thn (he a s σ H _ I h) fun v _⟨y,g,b,d,f⟩=>(store_ok b hN hi hx d (fun _ c=>⟨_,g,c,f⟩) hf)) hs
def tPar(i j:Nat)(ta:TA):TS:=fun D σ H=>ta σ H fun vs H1=>∃v w,vs=[v,w]/\D.nx ((σ.set i (some v)).set j (some w)) H1
theorem ps_par{i j}{x y}{a b}{ta}{px py pt}{kt k2 pt2}(hc:X.calm=true)(hN:X.N.Nodup)(hi:X.N[i]?=some x)(hj:X.N[j]?=some y)(hij:i≠j)
  (hx:X.env.scope.names.lookup x=some .local)(hy:X.env.scope.names.lookup y=some .local)(ha:PA X [a,b] ta)
  (hw:swappedStores [.Tuple [.Name x px,.Name y py] kt pt] (.Tuple [a,b] k2 pt2) X.env=pure (some [x,y]))
  (hs:swapsWithSole [.Tuple [.Name x px,.Name y py] kt pt] (.Tuple [a,b] k2 pt2) pos.line X.env=pure false:=by rfl):
  PS X (.Assign [.Tuple [.Name x px,.Name y py] kt pt] (.Tuple [a,b] k2 pt2) pos) (tPar i j ta):=by
 refine fun c s σ H D I h=>wpAny_bind (wpAny_standAt ?_)
 refine wpAny_bind (wpAny_pure (wpAny_bind (Tuple_ (thn (ha _ c s σ H _ I h) fun us f xq1=>?_))))
 obtain⟨vs,H1,I1,r1,t⟩:=xq1
 obtain⟨v,w,e1,t⟩:=t
 subst e1
 obtain⟨d,g,rfl,rv,l⟩:∃d g,us=[d,g]/\RelV v d/\RelV w g:=by
  cases r1 with
  |cons p q=>
   cases q with
   |cons p' q'=>
    cases q'
    grind
 refine wpAny_newObj_type ?_ (by show 2<=sizeLine;decide)
 rw[hw]
 refine wpAny_bind (wpAny_pure (wpAny_bind (wpAny_rule (wpAny_bind (unpackItems_tuple (items:=#[d,g]) (I.ok.hd hc) (IsTup.new f.heap _) fun h' r=>(wpAny_bind (assignInOrder_cons (wpAny_bindName (store_ok ((show Inv X c σ H1 {f with heap:=f.heap.push {cls:= .type "tuple",data:= .seq [d,g].toArray}}from I1.kept (t':=f.toks) fun b o e=>Heap.get?_push_of_some _ e).kept (h':=h') (t':=f.toks) fun b o e=>r b o (Nat.ne_of_lt (Heap.lt_size e)) e) hN hj (.inl hy) l (fun s2 I4=>(assignInOrder_cons (wpAny_bindName (store_ok I4 hN hi (.inl hx) rv (fun s3 z=>assignInOrder_nil (wpAny_pure ?_)) (.inr hx))))) (.inr hy))))))))))
 rw[List.set_comm _ _ (Ne.symm hij)]at z
 exact⟨_,H1,z,t⟩
def tAug(i:Nat)(te:TE)(ti:TIp):TS:=fun D σ H=>∃x,σ[i]?=some (some x)/\te σ H fun y H1=>ti x y H1 fun z H2=>D.nx (σ.set i (some z)) H2
theorem ps_aug{i}{x}{e}{te}{op}{ti}{pos'}(hN:X.N.Nodup)(hi:X.N[i]?=some x)(hx:Loc X.env.scope x)(he:PE X e te)(ho:PIp X op ti)(hf:X.fn x=true\/X.env.scope.names.lookup x=some .local:=by first|exact .inl rfl|exact .inr rfl|assumption):
  PS X (.AugAssign (.Name x pos') op e pos) (tAug i te ti):=by
 intro a s σ H D I h
 obtain⟨v,M,h⟩:=h
 obtain⟨m,F,K⟩:=I.loc
 obtain⟨u,r,l⟩:=K i x v hi M (show Vis _ x by rcases hx with k|k;exact .inl k;exact .inr (.inl k))
 refine wpAny_AugAssign_Name ?_
 have f:wpAny (model X.prog X.w) X.A (eval e X.env) (fun w g=>wpAny (model X.prog X.w) X.A (inplaceOp op u w) (fun r p=>wpAny (model X.prog X.w) X.A (storeName X.env x r) (fun _=>SP X a D .next) X.xe p) X.xe g) X.xe s:=thn (he a s σ H _ I h) fun w C⟨y,j,t,G,n⟩=>thn (ho a C σ j v y u w _ t r G n) fun z _⟨_,O,E,L,q⟩=>store_ok E hN hi hx L (fun _ J=>⟨_,O,J,q⟩) hf
 rcases l with⟨b,B⟩|⟨b,c,o,d⟩
 ·exact wpAny_loadName_local I.ok.kind b F B f
 ·rcases b with b|b
  ·exact wpAny_loadName_cell I.ok.kind b o d f
  ·rcases hx with k|k
   ·have:X.env.scope.names.lookup x=some _:=b
    simp_all
   ·have:X.env.scope.names.lookup x=some _:=b
    simp_all
def tAugS(to ti te:TE)(tget:V->V->Hp->VK->Prop)(tip:TIp)(tset:TSet):TS:=fun D σ H=>to σ H fun o H1=>ti σ H1 fun i H2=>tget o i H2 fun x H3=>te σ H3 fun y H4=>tip x y H4 fun z H5=>tset o i z H5 fun H6=>D.nx σ H6
def PGet(X:Cx)(t:V->V->Hp->VK->Prop):Prop:=
 ∀(pins)(s)(σ:St)(H)(o i)(ov iv)(Q),Inv X pins σ H s->RelV o ov->RelV i iv->t o i H Q->
  wpAny (model X.prog X.w) X.A (getItem ov iv) (EP X pins σ Q) X.xe s
theorem ps_augS{o i e}{to ti te}{tget:V->V->Hp->VK->Prop}{tip}{tset}{op}{tpos}(ho:PE X o to)(hi:PE X i ti)(hg:PGet X tget)(he:PE X e te)(hp:PIp X op tip)(hs:PSet X tset)
  (ha:∀ov iv new,augStore i ov iv new=(do holding [new,ov,iv] (setItem ov iv new);release [new,ov,iv] [];pure .next):=by intros;rfl):PS X (.AugAssign (.Subscript o i tpos) op e pos) (tAugS to ti te tget tip tset):=fun a s σ H D I h=>wpAny_AugAssign_SubscriptAny (thn (ho a s σ H _ I h) fun ov y⟨c,q,C,f,r⟩=>(thn (hi a y σ q _ C r) fun iv N⟨d,P,Q,g,x⟩=>thn (hg a N σ P c d ov iv _ Q f g x) fun b z⟨F,t,L,R,O⟩=>thn (he a z σ t _ L O) fun v u⟨A,J,E,l,G⟩=>thn (hp a u σ J F A b v _ E R l G) fun new n⟨p,B,w,M,m⟩=>(thn (hs a n σ B c d p ov iv new _ w f g M m) fun _ _⟨k,K,j⟩=>⟨σ,k,K,j⟩))) ha
inductive ipI(f:Int->Int->Int)(x:V)(y:V)(H:Hp)(Q:VK):Prop
 |mk (i j:_) (_:x= .int i) (_:y= .int j) (_:Q (.int (f i j)) H)
theorem ip_add:PIp X .Add (ipI fun i j=>i+j):=by
 intro _ s σ H x y v u Q I d a h
 obtain⟨i,j,c,b,q⟩:=h
 subst c;subst b
 obtain⟨t,rfl⟩:=d
 obtain⟨_,rfl⟩:=a
 exact iadd_int ⟨.int _,H,I.tok _,⟨_,rfl⟩,q⟩
def tWhile(c:TT)(tb:TS):TS:=fun D σ H=>∃W:Nat->St->Hp->Prop,(∃m,W m σ H)/\∀m σ H,W m σ H->
 c σ H fun b H1=>if b=true then∃N,(∀σ' H',N σ' H'->∃m',m'<m/\W m' σ' H')/\tb {D with nx:=N,ct:=N,bk:=D.nx} σ H1 else D.nx σ H1
theorem ps_while{c}{body}{tc}{tb}(hp:PassesOwn (model X.prog X.w) X.A X.env X.xe)(hc:PT X c tc)(hb:PSs X body tb):PS X (.While c body [] pos) (tWhile tc tb):=by
 intro a s σ H D I h
 obtain⟨W,⟨z,K⟩,e⟩:=h
 refine wpAny_While (codeAny_whileLoop (fun n J=>∃u x,Inv X _ u x J/\W n u x) ?_ z ⟨σ,H,I,K⟩)
 rintro n G ⟨i,t,F,E⟩
 refine wpAny_passesOwn hp (thn (hc a G i t _ F (e n i t E)) fun b C xq1=>?_)
 obtain⟨y,r,g⟩:=xq1
 cases b with
 |true=>
  obtain⟨N,q,g⟩:=g
  refine wpAny_passesOwn hp (thn (hb a C i y _ r g) fun f _ j=>?_)
  cases f with
  |next=>
   obtain⟨B,d,l,p⟩:=j
   obtain⟨o,k,m⟩:=q _ d p
   exact⟨o,k,_,d,l,m⟩
  |cont=>
   obtain⟨B,d,l,p⟩:=j
   obtain⟨o,k,m⟩:=q _ d p
   exact⟨o,k,_,d,l,m⟩
  |brk=>exact j
  |ret v=>exact j
 |_=>
  exact wpAny_execs_nil ⟨i,y,r,g⟩
end
structure It where
 go:Nat->Hp->Prop
 yld:Nat->Hp->V->Hp->Prop
 stop:Nat->Hp->Prop
def FpOk(X:Cx)(pins:List (Addr×Obj))(H:Hp)(b:Addr):Prop:=
 H b=none/\b≠X.env.locals/\b ∉ X.fs/\(b∈X.ex\/X.s₀.heap.objs.size<=b)/\(∀x c,X.env.cells.lookup x=some c->c≠b)/\∀p∈X.pn++pins,p.1≠b
theorem Inv.fpOk{X}{pins}{σ:St}{H H'}{s:Shared}{b:Addr}(I:Inv X pins σ H s)(hb:s.heap.objs.size<=b)(hn:H' b=none):FpOk X pins H' b:=by
 refine⟨hn,Nat.ne_of_gt (Nat.lt_of_lt_of_le I.lt hb),I.nofs hb,.inr (Nat.le_trans I.sz hb),fun x c e z=>?_,fun p a z=>?_⟩
 ·obtain⟨v,q⟩:=I.cell x c e
  exact absurd (Nat.lt_of_lt_of_le q.lt (by rw[z];exact hb)) (Nat.lt_irrefl _)
 ·exact absurd (Nat.lt_of_lt_of_le (Heap.lt_size (I.pin p a).1) (by rw[z];exact hb)) (Nat.lt_irrefl _)
structure Turn(P:Program)(w:World)(K:PySem.W.Frag)(tg:Expr)(J:It)(fp:List Addr)(it:Addr)(tn:Nat->Heap->Prop):Prop where
 mem:it∈fp
 obj:∀i h,tn i h->∀b∈fp,∃o,h.get? b=some o/\∀v,o.data≠.cell v
 keep:∀i h h',tn i h->(∀b∈fp,∀o,h.get? b=some o->h'.get? b=some o)->tn i h'
 item:∀(X:Cx),X.prog=P->X.w=w->X.K=K->X.calm=true->∀(i:Nat)(pins:List (Addr×Obj))(s:Shared)(σ:St)(H:Hp)(E:Value->Shared->Prop),Inv X pins σ H s->(∀b∈fp,FpOk X pins H b)->tn i s.heap->J.go i H->
  wpAny (model P w) X.A (pyNext (.ref it)) (fun r s1=>∃u,r=some u/\
   wpAny (model P w) X.A (letOwnedTupleGo tg (.ref it) u) (fun _ s2=>∃x H',Inv X pins σ H' s2/\RelV x u/\J.yld i H x H'/\tn (i+1) s2.heap/\∀b∈fp,H' b=none) E s1) E s
 done:∀(X:Cx),X.prog=P->X.w=w->X.K=K->X.calm=true->∀(i:Nat)(pins:List (Addr×Obj))(s:Shared)(σ:St)(H:Hp)(E:Value->Shared->Prop),Inv X pins σ H s->(∀b∈fp,FpOk X pins H b)->tn i s.heap->J.stop i H->
  wpAny (model P w) X.A (pyNext (.ref it)) (fun r s1=>r=none/\Inv X pins σ H s1) E s
 self:∀(A:Around)(i:Nat)(s:Shared)(Q:Value->Shared->Prop)(E:Value->Shared->Prop),tn i s.heap->Q (.ref it) s->wpAny (model P w) A (pyIter (.ref it)) Q E s
abbrev TI:=St->Hp->(It->Hp->Prop)->Prop
def PIE(X:Cx)(pins:List (Addr×Obj))(σ:St)(tg:Expr)(R:It->Hp->Prop)(itv:Value)(s2:Shared):Prop:=
 ∃it fp tn J H',itv= .ref it/\Inv X pins σ H' s2/\Turn X.prog X.w X.K tg J fp it tn/\tn 0 s2.heap/\(∀b∈fp,FpOk X pins H' b)/\R J H'
def PI(X:Cx)(tg iter:Expr)(wi:TI):Prop:=
 ∀(pins)(s)(σ:St)(H)(R),Inv X pins σ H s->wi σ H R->
  wpAny (model X.prog X.w) X.A (eval iter X.env) (fun v s1=>wpAny (model X.prog X.w) X.A (pyIter v) (PIE X pins σ tg R) X.xe s1) X.xe s
theorem go_of{M}{A}{E}{s}{tg}{it}{u}{o}{n}{vs}{Q:Unit->Shared->Prop}(ho:s.heap.get? it=some o)(hc:o.cls= .type n)(hd:o.data= .fields vs)
  (hn:["enumerate","zip","dict_itemiterator","dict_reverseitemiterator","odict_iterator","itertools.zip_longest","itertools.pairwise"].contains n=false)(hQ:Q () s):wpAny M A (letOwnedTupleGo tg (.ref it) u) Q E s:=by
 cases tg<;>first
  |exact wpAny_pure hQ
  |(cases u<;>first
    |exact wpAny_pure hQ
    |(refine wpAny_bind (wpAny_load ho ?_)
      rw[hc,hd]
      show wpAny M A (if(["enumerate","zip","dict_itemiterator","dict_reverseitemiterator","odict_iterator","itertools.zip_longest","itertools.pairwise"].contains n&&vs[0]?==some _)=_ then _ else _) Q E s
      rw[if_neg (by grind)]
      exact wpAny_pure hQ))
def Itl(K:PySem.W.Frag)(a:Addr):It:=
 ⟨fun i H=>∃xs x,SqL K H a xs/\xs[i]?=some x,fun i H x H'=>H'=H/\∀xs,SqL K H a xs->xs[i]?=some x,fun i H=>∃xs,SqL K H a xs/\xs.length<=i⟩
def Itt(K:PySem.W.Frag)(a:Addr):It:=
 ⟨fun i H=>∃xs x,SqT K H a xs/\xs[i]?=some x,fun i H x H'=>H'=H/\∀xs,SqT K H a xs->xs[i]?=some x,fun i H=>∃xs,SqT K H a xs/\xs.length<=i⟩
def Itr(lo:Int)(n:Nat):It:=⟨fun i _=>i<n,fun i H x H'=>H'=H/\x= .int (lo+i),fun i _=>n<=i⟩
theorem turn_list{P}{w}{K}{tg}(a it):Turn P w K tg (Itl K a) [it] it (fun i h=>h.IsListIter it a i)where
 mem:=by simp
 obj:=fun i h st b f=>by
  have e:b=it:=by simpa using f
  subst e
  obtain⟨o,e,c,d⟩:=st
  simp_all
 keep:=fun i h G st k=>st.at fun o e=>k it (by simp) o e
 item:=by
  intro X A B z J i j s σ H E I m st D
  subst A B z
  obtain⟨S,x,l,t⟩:=D
  obtain⟨y,r,p,T⟩:=I.list l
  obtain⟨u,M,R⟩:=r.get t
  obtain⟨C,n,N,v,F,q⟩:=m it (by simp)
  refine wpAny_pyNext_list_item st p.isList (by simpa using M) fun G g L=>?_
  obtain⟨o,e,c,d⟩:=id g
  exact⟨u,rfl,go_of e c d (by decide) ⟨x,H,(I.turned (fun b o f e=>(L.2 b f).trans e) C n v F q),R,⟨rfl,fun _ O=>by rw[I.list_inj O l];exact t⟩,g,fun b f=>(m b f).1⟩⟩
 done:=by
  intro X A B z J i j s σ H E I m st D
  subst A B z
  obtain⟨S,l,t⟩:=D
  obtain⟨y,r,p,T⟩:=I.list l
  obtain⟨C,n,N,v,F,q⟩:=m it (by simp)
  have _:=r.length
  exact wpAny_pyNext_list_end (I.ok.hd J) st p.isList (by simp;omega) fun G Q=>⟨rfl,I.turned (fun b o f e=>Q b o f e) C n v F q⟩
 self:=fun _ _ _ _ _ st h=>wpAny_pyIter_listiter st h
theorem turn_tuple{P}{w}{K}{tg}(a it):Turn P w K tg (Itt K a) [it] it (fun i h=>h.IsTupleIter it a i)where
 mem:=by simp
 obj:=fun i h st b f=>by
  have e:b=it:=by simpa using f
  subst e
  obtain⟨o,e,c,d⟩:=st
  grind
 keep:=fun i h G st k=>st.at fun o e=>k it (by simp) o e
 item:=by
  intro X A B z J i j s σ H E I m st D
  subst A B z
  obtain⟨S,x,l,t⟩:=D
  obtain⟨y,r,p,T⟩:=I.tuple l
  obtain⟨u,M,R⟩:=r.get t
  obtain⟨C,n,N,v,F,q⟩:=m it (by simp)
  refine wpAny_pyNext_tuple_item st p (by simpa using M) fun G g L=>?_
  obtain⟨o,e,c,d⟩:=id g
  exact⟨u,rfl,go_of e c d (by decide) ⟨x,H,(I.turned (fun b o f e=>(L.2 b f).trans e) C n v F q),R,⟨rfl,fun _ O=>by rw[I.tuple_inj O l];exact t⟩,g,fun b f=>(m b f).1⟩⟩
 done:=by
  intro X A B z J i j s σ H E I m st D
  subst A B z
  obtain⟨S,l,t⟩:=D
  obtain⟨y,r,p,T⟩:=I.tuple l
  obtain⟨C,n,N,v,F,q⟩:=m it (by simp)
  have _:=r.length
  exact wpAny_pyNext_tuple_end (I.ok.hd J) st p (by simp;omega) fun G Q=>⟨rfl,I.turned (fun b o f e=>Q b o f e) C n v F q⟩
 self:=fun _ _ _ _ _ st h=>wpAny_pyIter_tupleiter st h
theorem turn_range{P}{w}{K}{tg}(it)(lo)(n):Turn P w K tg (Itr lo n) [it] it (fun i h=>IsRangeIter h it (lo+i*1) (n-i) 1)where
 mem:=by simp
 obj:=fun i h st b a=>by
  simp_all
 keep:=fun i h A st k=>k it (by simp) _ st
 item:=by
  intro X u m l x i d s σ H E I g st y
  subst u m l
  obtain⟨r,q,D,p,z,j⟩:=g it (by simp)
  refine(Walks.range (I.ok.hd x) it lo 1 n).item i s _ _ y st fun v A _ B c F=>?_
  obtain⟨t,rfl⟩:=B
  refine⟨_,rfl,go_of c rfl rfl (by decide) ⟨.int (lo+i),H,(show Inv X _ σ H _ from I.turned (fun b o a e=>F b o (by simpa using a) e) r q p z j),⟨t,?_⟩,⟨rfl,rfl⟩,c,fun b a=>(g b a).1⟩⟩
  rw[Int.mul_one]
 done:=by
  intro X u m l x i d s σ H E I g st y
  subst u m l
  obtain⟨r,q,D,p,z,j⟩:=g it (by simp)
  exact wpAny_pyNext_range_end (I.ok.hd x) st (by have:n<=i:=y;omega) fun A C=>⟨rfl,I.turned (fun b o a e=>C b o a e) r q p z j⟩
 self:=fun _ _ _ _ _ st h=>wpAny_pyIter_rangeiter st h
section
variable{X:Cx}{tg:Expr}
def iList(K:PySem.W.Frag)(tl:TE):TI:=fun σ H R=>tl σ H fun x H1=>∃a,x= .ref a/\(∃xs,SqL K H1 a xs)/\R (Itl K a) H1
def iTup(K:PySem.W.Frag)(tl:TE):TI:=fun σ H R=>tl σ H fun x H1=>∃a,x= .ref a/\(∃xs,SqT K H1 a xs)/\R (Itt K a) H1
theorem pi_list{l}{tl}(hl:PE X l tl):PI X tg l (iList X.K tl):=by
 refine fun c s σ H R I h=>thn (hl c s σ H _ I h) fun v k xq1=>?_
 obtain⟨x,i,d,j,g⟩:=xq1
 obtain⟨a,e,⟨_,m⟩,q⟩:=g
 subst e
 cases j
 obtain⟨_,_,p,_⟩:=d.list m
 refine wpAny_pyIter_list p.isList ⟨_,_,_,_,i,rfl,d.kept fun b o e=>Heap.get?_push_of_some _ e,turn_list a _,⟨_,Heap.get?_push_size _ rfl,rfl,rfl⟩,fun b f=>?_,q⟩
 have e:b=k.heap.objs.size:=by simpa using f
 subst e
 exact d.fpOk (Nat.le_refl _) (d.hok.fresh (Nat.le_refl _))
theorem pi_tup{l}{tl}(hl:PE X l tl):PI X tg l (iTup X.K tl):=by
 refine fun c s σ H R I h=>thn (hl c s σ H _ I h) fun v k xq1=>?_
 obtain⟨x,i,d,j,g⟩:=xq1
 obtain⟨a,e,⟨_,m⟩,q⟩:=g
 subst e
 cases j
 obtain⟨_,_,p,_⟩:=d.tuple m
 refine wpAny_pyIter_tuple p ⟨_,_,_,_,i,rfl,d.kept fun b o e=>Heap.get?_push_of_some _ e,turn_tuple a _,⟨_,Heap.get?_push_size _ rfl,rfl,rfl⟩,fun b f=>?_,q⟩
 have e:b=k.heap.objs.size:=by simpa using f
 subst e
 exact d.fpOk (Nat.le_refl _) (d.hok.fresh (Nat.le_refl _))
theorem range_it{pins}{σ:St}{H}{s}{R}{E}{lo hi}{t u v}{tk}(I:Inv X pins σ H s)(h1: -(2^62)<=lo)(h2:lo<2^62)(h3: -(2^62)<=hi)(h4:hi<2^62)
  (q:R (Itr lo (hi-lo).toNat) H):wpAny (model X.prog X.w) X.A (pyIter (.ref s.heap.objs.size)) (PIE X pins σ tg R) E {s with heap:=s.heap.push {cls:= .type "range",data:= .fields #[.int lo t,.int hi u,.int 1 v]},toks:=tk}:=by
 refine wpAny_pyIter_range (IsRange.new ..) (small_one h1 h2 h3 h4) ?_
 have a:Inv X _ σ H {s with heap:=s.heap.push {cls:= .type "range",data:= .fields #[.int lo t,.int hi u,.int 1 v]},toks:=tk}:=I.kept fun b o e=>Heap.get?_push_of_some _ e
 refine⟨_,_,_,_,H,rfl,
  a.kept fun b o e=>Heap.get?_push_of_some _ e,turn_range _ lo (hi-lo).toNat,?_,fun b c=>?_,q⟩
 ·rw[(show lo+((0:Nat):Int)*1=lo by simp),(show(((hi-lo).toNat:Nat):Int)-((0:Nat):Int)=Builtin.Range.rangeSize lo hi 1 by rw[rangeSize_one];split<;>omega)]
  exact Heap.get?_push_size _ rfl
 ·have e:b=(s.heap.push {cls:= .type "range",data:= .fields #[.int lo t,.int hi u,.int 1 v]}).objs.size:=by simpa using c
  subst e
  exact a.fpOk (Nat.le_refl _) (a.hok.fresh (Nat.le_refl _))
def iRng1(ta:TA):TI:=fun σ H R=>ta σ H fun vs H1=>∃j,vs=[.int j]/\ -(2^62)<=j/\j<2^62/\R (Itr 0 j.toNat) H1
theorem pi_range1{a}{ta}{p pos}(hg:Gl X "range")(hm:X.mg "range"=none)(ha:PA X [a] ta)(hs:starEach [a] X.env=[(false,eval a X.env)]:=by rfl):PI X tg (.Call (.Name "range" p) [a] [] pos) (iRng1 ta):=by
 refine fun b s σ H R I h=>Call_ (ld_blt I hg hm boot_range (PyProof.Rows.callWith_type1 (thn (ha pos b s σ H _ I h) fun _ _ xq1=>?_) hs rfl))
 obtain⟨_,_,d,i,c⟩:=xq1
 obtain⟨j,e,c,f,q⟩:=c
 subst e
 cases i with
 |cons r g=>
  cases g
  obtain⟨t,rfl⟩:=r
  exact call_range_1 (range_it d (by simp) (by simp) c f (by simpa using q))
def tFor(wi:TI)(g:TG)(tb:TS):TS:=fun D σ H=>wi σ H fun J H1=>∃W:Nat->Nat->St->Hp->Prop,(∃m,W 0 m σ H1)/\∀i m σ H,W i m σ H->
 (J.stop i H/\D.nx σ H)\/(J.go i H/\∃N,(∀σ' H',N σ' H'->∃m',m'<m/\W (i+1) m' σ' H')/\∀x H',J.yld i H x H'->g x σ H' fun σ2 H2=>tb {D with nx:=N,ct:=N,bk:=D.nx} σ2 H2)
def pinsAt(fp:List Addr)(h:Heap):List (Addr×Obj):=fp.filterMap fun b=>(h.get? b).map fun o=>(b,o)
theorem mem_pinsAt{fp}{h}{b}{o}(hb:b∈fp)(e:h.get? b=some o):(b,o)∈pinsAt fp h:=List.mem_filterMap.mpr ⟨b,hb,by rw[e];rfl⟩
theorem of_pinsAt{fp}{h}{p}(hp:p∈pinsAt fp h):p.1∈fp/\h.get? p.1=some p.2:=by
 obtain⟨b,_,e⟩:=List.mem_filterMap.mp hp
 cases q:h.get? b with
 |none=>simp_all
 |some o=>
  grind
theorem Inv.pinned{pins}{σ:St}{H}{s}{fp}(I:Inv X pins σ H s)(hf:∀b∈fp,FpOk X pins H b) (ho:∀b∈fp,∃o,s.heap.get? b=some o/\∀v,o.data≠.cell v):Inv X (pins++pinsAt fp s.heap) σ H s:=
 I.pins_of fun p a=>(List.mem_append.mp a).elim (fun z=>I.pin p (List.mem_append_right _ z)) fun z=>by
  obtain⟨c,e⟩:=of_pinsAt z
  obtain⟨_,_,_,_⟩:=hf _ c
  grind
theorem Inv.unpinned{pins pl}{σ:St}{H}{s}(I:Inv X (pins++pl) σ H s):Inv X pins σ H s:=I.pins_of fun p a=>I.pin p (List.mem_append_right _ (List.mem_append_left _ a))
theorem ps_for{iter}{body}{wi}{g}{tb}{pos}(hp:PassesOwn (model X.prog X.w) X.A X.env X.xe)(hc:X.calm=true)(hi:PI X tg iter wi)(hg:PG X tg g)(hb:PSs X body tb)
  (hs:∀x,foldedSetIterable iter X.env x=pure x:=by intro _;rfl):PS X (.For tg iter body [] pos) (tFor wi g tb):=by
 refine fun a s σ H D I h=>wpAny_For (thn (hi a s σ H _ I h) fun v s1 h1=>thn h1 fun itv s2 h2=>?_) hs
 obtain⟨it,K,tn,J,H2,e,I2,T,Q,V,W,⟨m0,w0⟩,G⟩:=h2
 subst e
 have c:∀{l},(∀b∈K,l b=none)->∀b∈K,FpOk X _ l b:=fun hn b hb=>⟨hn b hb,(V b hb).2⟩
 refine codeAny_forLoop_any (fun n s'=>∃i B l,Inv X _ B l s'/\tn i s'.heap/\(∀b∈K,l b=none)/\W i n B l) ?_ m0 ⟨0,σ,H2,I2,Q,fun b hb=>(V b hb).1,w0⟩
 rintro n R ⟨i,L,M,S,C,z,w3⟩
 rcases G i n _ M w3 with⟨F,qn⟩|⟨go,N,hN,step⟩
 ·refine wpAny_passesOwn hp (thn (T.done X rfl rfl rfl hc i a R L M X.xe S (c z) C F) fun r s4 xq1=>?_)
  obtain⟨P,I4⟩:=xq1
  subst P
  exact wpAny_execs_nil ⟨L,M,I4,qn⟩
 ·refine wpAny_passesOwn hp (thn (T.item X rfl rfl rfl hc i a R L M X.xe S (c z) C go) fun r s4 xq1=>?_)
  obtain⟨u,P,h4⟩:=xq1
  subst P
  refine wpAny_passesOwn hp (thn h4 fun _ s5⟨x,Y,I5,r5,y5,y,O⟩=>wpAny_passesOwn hp (thn (hg _ s5 L Y x u _ (I5.pinned (c O) (T.obj _ _ y)) r5 (step x Y y5)) fun _ s6⟨σ6,H6,I6,q6⟩=>(wpAny_passesOwn hp (thn (hb _ s6 σ6 H6 _ I6 q6) fun f U p=>?_))))
  have again:∀{q}{j},Inv X _ _ j U->N _ j->∃m,m<n/\∃i B l,Inv X a B l U/\tn i _/\(∀b∈K,l b=none)/\W i m B l:=fun{q j} k E=>by
   obtain⟨m',hm,w7⟩:=hN _ j E
   refine⟨m',hm,i+1,q,j,k.unpinned,T.keep _ _ _ y fun b hb o e=>(k.pin (b,o) (List.mem_append_right _ (List.mem_append_right _ (mem_pinsAt hb e)))).1,fun b hb=>?_,w7⟩
   obtain⟨o,e,d⟩:=T.obj _ _ y b hb
   exact(k.pin (b,o) (List.mem_append_right _ (List.mem_append_right _ (mem_pinsAt hb e)))).2.1
  cases f with
  |next=>obtain⟨q,j,k,E⟩:=p;exact again k E
  |cont=>obtain⟨q,j,k,E⟩:=p;exact again k E
  |brk=>obtain⟨q,j,k,p⟩:=p;exact⟨q,j,k.unpinned,p⟩
  |ret v=>obtain⟨x7,q,j,k,r7,p⟩:=p;exact⟨x7,q,j,k.unpinned,r7,p⟩
end
theorem for_list{K}{a}{xs}{g:TG}{tb:TS}{D:Ends}{σ:St}{H:Hp}(Pv:Nat->St->Hp->Prop)(h0:Pv 0 σ H)(hl:∀i σ H,i<=xs.length->Pv i σ H->SqL K H a xs)
  (hs:∀i x σ H,xs[i]?=some x->Pv i σ H->g x σ H fun σ2 H2=>tb {D with nx:=Pv (i+1),ct:=Pv (i+1),bk:=D.nx} σ2 H2) (hd:∀σ H,Pv xs.length σ H->D.nx σ H):
  ∃W:Nat->Nat->St->Hp->Prop,(∃m,W 0 m σ H)/\∀i m σ H,W i m σ H->
   ((Itl K a).stop i H/\D.nx σ H)\/((Itl K a).go i H/\∃N:St->Hp->Prop,(∀σ' H',N σ' H'->∃m',m'<m/\W (i+1) m' σ' H')/\∀x H',(Itl K a).yld i H x H'->g x σ H' fun σ2 H2=>tb {D with nx:=N,ct:=N,bk:=D.nx} σ2 H2):=by
 refine⟨fun i m σ H=>m=xs.length-i/\i<=xs.length/\Pv i σ H,⟨xs.length,by simp,Nat.zero_le _,h0⟩,?_⟩
 rintro i m σ H ⟨rfl,c,p⟩
 have q:=hl i σ H c p
 by_cases b:i<xs.length
 ·refine .inr ⟨⟨xs,xs[i],q,by simp[b]⟩,_,fun σ' H' d=>⟨_,by omega,rfl,b,d⟩,fun x H' y=>?_⟩
  obtain⟨e,y⟩:=y
  grind
 ·have e:i=xs.length:=by omega
  subst e
  exact .inl ⟨⟨xs,q,Nat.le_refl _⟩,hd σ H p⟩
theorem for_tup{K:PySem.W.Frag}{a:Addr}{xs:List V}{g:TG}{tb:TS}{D:Ends}{σ:St}{H:Hp}(Pv:Nat->St->Hp->Prop)(h0:Pv 0 σ H)(hl:∀i σ H,i<=xs.length->Pv i σ H->SqT K H a xs)
  (hs:∀i x σ H,xs[i]?=some x->Pv i σ H->g x σ H fun σ2 H2=>tb {D with nx:=Pv (i+1),ct:=Pv (i+1),bk:=D.nx} σ2 H2) (hd:∀σ H,Pv xs.length σ H->D.nx σ H):
  ∃W:Nat->Nat->St->Hp->Prop,(∃m,W 0 m σ H)/\∀i m σ H,W i m σ H->
   ((Itt K a).stop i H/\D.nx σ H)\/((Itt K a).go i H/\∃N:St->Hp->Prop,(∀σ' H',N σ' H'->∃m',m'<m/\W (i+1) m' σ' H')/\∀x H',(Itt K a).yld i H x H'->g x σ H' fun σ2 H2=>tb {D with nx:=N,ct:=N,bk:=D.nx} σ2 H2):=by
 refine⟨fun i m σ H=>m=xs.length-i/\i<=xs.length/\Pv i σ H,⟨xs.length,by simp,Nat.zero_le _,h0⟩,?_⟩
 rintro i m σ H ⟨rfl,c,p⟩
 have q:=hl i σ H c p
 by_cases b:i<xs.length
 ·refine .inr ⟨⟨xs,xs[i],q,by simp[b]⟩,_,fun σ' H' d=>⟨_,by omega,rfl,b,d⟩,fun x H' y=>?_⟩
  obtain⟨e,y⟩:=y
  grind
 ·have e:i=xs.length:=by omega
  subst e
  exact .inl ⟨⟨xs,q,Nat.le_refl _⟩,hd σ H p⟩
theorem for_range{lo}{n}{g:TG}{tb:TS}{D:Ends}{σ:St}{H:Hp}(Pv:Nat->St->Hp->Prop)(h0:Pv 0 σ H)
  (hs:∀i σ H,i<n->Pv i σ H->g (.int (lo+i)) σ H fun σ2 H2=>tb {D with nx:=Pv (i+1),ct:=Pv (i+1),bk:=D.nx} σ2 H2) (hd:∀σ H,Pv n σ H->D.nx σ H):
  ∃W:Nat->Nat->St->Hp->Prop,(∃m,W 0 m σ H)/\∀i m σ H,W i m σ H->
   ((Itr lo n).stop i H/\D.nx σ H)\/((Itr lo n).go i H/\∃N:St->Hp->Prop,(∀σ' H',N σ' H'->∃m',m'<m/\W (i+1) m' σ' H')/\∀x H',(Itr lo n).yld i H x H'->g x σ H' fun σ2 H2=>tb {D with nx:=N,ct:=N,bk:=D.nx} σ2 H2):=by
 refine⟨fun i m σ H=>m=n-i/\i<=n/\Pv i σ H,⟨n,by simp,Nat.zero_le _,h0⟩,?_⟩
 rintro i m σ H ⟨rfl,_,p⟩
 by_cases a:i<n
 ·refine .inr ⟨a,_,fun σ' H' b=>⟨_,by omega,rfl,a,b⟩,fun x H' y=>?_⟩
  obtain⟨e,y⟩:=y
  simp_all
 ·have e:i=n:=by omega
  subst e
  exact .inl ⟨Nat.le_refl _,hd σ H p⟩
abbrev R2:=V->V->Hp->VK->Prop
def OpR(X:Cx)(f:Value->Value->Sem Value)(r:R2):Prop:=
 ∀(pins)(s)(σ:St)(H)(x y)(v u)(Q),Inv X pins σ H s->RelV x v->RelV y u->r x y H Q->
  wpAny (model X.prog X.w) X.A (f v u) (EP X pins σ Q) X.xe s
def UnR(X:Cx)(f:Value->Sem Value)(r:V->Hp->VK->Prop):Prop:=
 ∀(pins)(s)(σ:St)(H)(x)(v)(Q),Inv X pins σ H s->RelV x v->r x H Q->
  wpAny (model X.prog X.w) X.A (f v) (EP X pins σ Q) X.xe s
def CallR(X:Cx)(f:Value)(r:List V->Hp->VK->Prop):Prop:=
 ∀(pins)(s)(σ:St)(H)(xs)(us)(Q),Inv X pins σ H s->Vals xs us->r xs H Q->
  wpAny (model X.prog X.w) X.A (call f us) (EP X pins σ Q) X.xe s
def TruR(X:Cx)(r:V->Hp->(Bool->Hp->Prop)->Prop):Prop:=
 ∀(pins)(s)(σ:St)(H)(x)(v)(Q),Inv X pins σ H s->RelV x v->r x H Q->
  wpAny (model X.prog X.w) X.A (truthy v) (TP X pins σ Q) X.xe s
def tOp(r:R2)(ta tb:TE):TE:=fun σ H Q=>ta σ H fun x H1=>tb σ H1 fun y H2=>r x y H2 Q
def tUn(r:V->Hp->VK->Prop)(ta:TE):TE:=fun σ H Q=>ta σ H fun x H1=>r x H1 Q
inductive rI(C:Int->Int->Prop)(g:Int->Int->V)(x:V)(y:V)(H:Hp)(Q:VK):Prop
 |mk (i j:_) (_:x= .int i) (_:y= .int j) (_:C i j) (_:Q (g i j) H)
inductive rI0(g:Int->Int->V)(x:V)(y:V)(H:Hp)(Q:VK):Prop
 |mk (i j:_) (_:x= .int i) (_:y= .int j) (_:Q (g i j) H)
inductive rU(g:Int->V)(x:V)(H:Hp)(Q:VK):Prop
 |mk (i:_) (_:x= .int i) (_:Q (g i) H)
section
variable{X:Cx}{a b c:Expr}{ta tb tc:TE}{pos:Pos}
theorem binT(ha:PE X a ta)(hb:PE X b tb){pins}{s}{σ:St}{H}{R:V->V->Hp->Prop}(I:Inv X pins σ H s)
  (h:ta σ H fun x H1=>tb σ H1 fun y H2=>R x y H2) {Q} {f:Value->Value->Sem Value}
  (hf:∀v u s2 x y H2,Inv X pins σ H2 s2->RelV x v->RelV y u->R x y H2->wpAny (model X.prog X.w) X.A (f v u) Q X.xe s2):
  wpAny (model X.prog X.w) X.A (eval a X.env) (fun v s₁=>wpAny (model X.prog X.w) X.A (eval b X.env) (fun u s₂=>wpAny (model X.prog X.w) X.A (f v u) Q X.xe s₂) X.xe s₁) X.xe s:=thn (ha pins s σ H _ I h) fun v d⟨x,H1,j,i,k⟩=>thn (hb pins d σ H1 _ j k) fun u s2⟨y,H2,g,e,c⟩=>hf v u s2 x y H2 g i e c
theorem pe_op{op}{r}(ho:OpR X (binaryOp op) r)(ha:PE X a ta)(hb:PE X b tb):PE X (.BinOp a op b pos) (tOp r ta tb):=fun _ s σ H Q I h=>wpAny_BinOp (binT ha hb I h fun v u g x y f e d c q=>ho _ g σ f x y v u Q e d c q)
theorem pe_un{op}{r}(ho:UnR X (unaryOp op) r)(ha:PE X a ta):PE X (.UnaryOp op a pos) (tUn r ta):=fun b s σ H Q I h=>UnaryOp_ (thn (ha b s σ H _ I h) fun v d⟨x,g,c,f,e⟩=>ho _ d σ g x v Q c f e)
theorem opI{f}{C}{g:Int->Int->Int}
  (rule:∀(i j:Int)(t u:Tok)(s:Shared)(Q:Value->Shared->Prop)(E:Value->Shared->Prop),C i j->Q (.int (g i j) s.toks) {s with toks:=s.toks+1}->wpAny (model X.prog X.w) X.A (f (.int i t) (.int j u)) Q E s):
  OpR X f (rI C fun i j=> .int (g i j)):=by
 intro _ s σ H x y v u Q I d a h
 obtain⟨i,j,rfl,rfl,b,q⟩:=h
 obtain⟨t,rfl⟩:=d
 obtain⟨c,rfl⟩:=a
 exact rule i j t c s _ _ b ⟨.int (g i j),H,I.tok _,⟨_,rfl⟩,q⟩
theorem opI0{f}{g:Int->Int->Int}
  (rule:∀(i j:Int)(t u:Tok)(s:Shared)(Q:Value->Shared->Prop)(E:Value->Shared->Prop),Q (.int (g i j) s.toks) {s with toks:=s.toks+1}->wpAny (model X.prog X.w) X.A (f (.int i t) (.int j u)) Q E s):
  OpR X f (rI0 fun i j=> .int (g i j)):=by
 intro _ s σ H x y v u Q I c a h
 obtain⟨i,j,rfl,rfl,q⟩:=h
 obtain⟨t,rfl⟩:=c
 obtain⟨b,rfl⟩:=a
 exact rule i j t b s _ _ ⟨.int (g i j),H,I.tok _,⟨_,rfl⟩,q⟩
theorem opB0{f}{g:Int->Int->Bool}
  (rule:∀(i j:Int)(t u:Tok)(s:Shared)(Q:Value->Shared->Prop)(E:Value->Shared->Prop),Q (.bool (g i j)) s->wpAny (model X.prog X.w) X.A (f (.int i t) (.int j u)) Q E s):
  OpR X f (rI0 fun i j=> .bl (g i j)):=by
 intro _ s σ H x y v u Q I c a h
 obtain⟨i,j,rfl,rfl,q⟩:=h
 obtain⟨t,rfl⟩:=c
 obtain⟨b,rfl⟩:=a
 exact rule i j t b s _ _ ⟨.bl (g i j),H,I,rfl,q⟩
def CDiv(i j:Int):Prop:=0<j/\j<1073741824
def CPow(i j:Int):Prop:=0<=j/\j<=1000000/\i.natAbs<2^64
def CMul(i j:Int):Prop:=(-(2^64)<i/\i<2^64)\/(-(2^64)<j/\j<2^64)
theorem CMul.ok{i j}(h:CMul i j):IntMulOk i j:=by
 rcases h with⟨b,a⟩|⟨b,a⟩
 ·exact .of_left (intBits_le_64 b a)
 ·exact .of_right (intBits_le_64 b a)
theorem op_add:OpR X (binaryOp .Add) (rI0 fun i j=> .int (i+j)):=opI0 fun _ _ _ _ _ _ _ q=>add_int q
theorem op_sub:OpR X (binaryOp .Sub) (rI0 fun i j=> .int (i-j)):=opI0 fun _ _ _ _ _ _ _ q=>sub_int q
theorem op_mul:OpR X (binaryOp .Mult) (rI CMul fun i j=> .int (i*j)):=opI fun _ _ _ _ _ _ _ a q=>mul_int q a.ok
theorem op_fdiv:OpR X (binaryOp .FloorDiv) (rI CDiv fun i j=> .int (i/j)):=opI fun i j _ _ _ _ _ a q=>by
 have _:=a.1
 have _:=a.2
 exact floordiv_int (by omega) (by grind) (.inl (PyProof.noPylong_small (by omega)))
theorem op_mod:OpR X (binaryOp .Mod) (rI (fun _ j=>0<j) fun i j=> .int (i%j)):=opI fun i j _ _ _ _ _ _ q=>mod_int' (by omega) (by rw[Int.fmod_eq_emod_of_nonneg i (by omega)];exact q)
theorem op_pow:OpR X (binaryOp .Pow) (rI CPow fun i j=> .int (i^j.toNat)):=opI fun _ _ _ _ _ _ _ a q=>pow_int_small a.1 a.2.1 a.2.2 q
theorem unI{f}{g:Int->Int}
  (rule:∀(i:Int)(t:Tok)(s:Shared)(Q:Value->Shared->Prop)(E:Value->Shared->Prop),Q (.int (g i) s.toks) {s with toks:=s.toks+1}->wpAny (model X.prog X.w) X.A (f (.int i t)) Q E s):
  UnR X f (rU fun i=> .int (g i)):=by
 intro _ s σ H x v Q I a h
 obtain⟨i,rfl,q⟩:=h
 obtain⟨t,rfl⟩:=a
 exact rule i t s _ _ ⟨.int (g i),H,I.tok _,⟨_,rfl⟩,q⟩
theorem un_neg:UnR X (unaryOp .USub) (rU fun i=> .int (-i)):=unI fun _ _ _ _ _ q=>neg_int q
end
def scal:V->V->Bool
 | .non,.non=>true| .non,.int _=>true| .int _,.non=>true| .non,.bl _=>true| .bl _,.non=>true| .non,.str _=>true| .str _,.non=>true
 | .int _,.int _=>true| .bl _,.bl _=>true| .str _,.str _=>true| .byt _,.byt _=>true
 | .int _,.str _=>true| .str _,.int _=>true| .bl _,.str _=>true| .str _,.bl _=>true
 |_,_=>false
def rEq:R2:=fun x y H Q=>scal x y=true/\Q (.bl (decide (x=y))) H
def rNe:R2:=fun x y H Q=>scal x y=true/\Q (.bl (!decide (x=y))) H
theorem dec_int{i j}:decide (V.int i=V.int j)=(i==j):=by
 grind
theorem dec_bl{i j}:decide (V.bl i=V.bl j)=(i==j):=by
 grind
theorem dec_str{i j}:decide (V.str i=V.str j)=(i==j):=by
 grind
theorem dec_byt{i j}:decide (V.byt i=V.byt j)=(i.toList==j.toList):=by
 rw[Bool.eq_iff_iff]
 simp_all
section
variable{X:Cx}{a b c:Expr}{ta tb tc:TE}{pos:Pos}
theorem fin_bl{pins}{σ:St}{H}{s}{Q}{k k'}(I:Inv X pins σ H s)(q:Q (.bl k) H)(e:k=k'):EP X pins σ Q (.bool k') s:=by
 subst e
 exact⟨.bl k,H,I,rfl,q⟩
theorem op_eq:OpR X (compareOp .Eq) rEq:=by
 intro _ s σ H x y v u Q I k b h
 obtain⟨g,q⟩:=h
 cases x with
 |non=>
  cases k
  cases y with
  |non=>cases b;exact PySem.EqNone.eq_none_none (fin_bl I q (by simp))
  |bl j=>cases b;exact PySem.EqNone.eq_none_bool (fin_bl I q (by simp))
  |int j=>obtain⟨e,rfl⟩:=b;exact PySem.EqNone.eq_none_int (fin_bl I q (by simp))
  |str j=>obtain⟨e,rfl⟩:=b;exact PySem.EqNone.eq_none_str (fin_bl I q (by simp))
  |_=>exact absurd g Bool.false_ne_true
 |bl i=>
  cases k
  cases y with
  |non=>cases b;exact PySem.EqNone.eq_bool_none (fin_bl I q (by simp))
  |bl j=>cases b;exact eq_bool (fin_bl I q dec_bl)
  |str j=>obtain⟨e,rfl⟩:=b;exact PySem.EqMixed.eq_bool_str (fin_bl I q (by simp))
  |_=>exact absurd g Bool.false_ne_true
 |int i=>
  obtain⟨t,rfl⟩:=k
  cases y with
  |non=>cases b;exact PySem.EqNone.eq_int_none (fin_bl I q (by simp))
  |int j=>obtain⟨e,rfl⟩:=b;exact eq_int (fin_bl I q dec_int)
  |str j=>obtain⟨e,rfl⟩:=b;exact PySem.EqMixed.eq_int_str (fin_bl I q (by simp))
  |_=>exact absurd g Bool.false_ne_true
 |str i=>
  obtain⟨t,rfl⟩:=k
  cases y with
  |non=>cases b;exact PySem.EqNone.eq_str_none (fin_bl I q (by simp))
  |bl j=>cases b;exact PySem.EqMixed.eq_str_bool (fin_bl I q (by simp))
  |int j=>obtain⟨e,rfl⟩:=b;exact PySem.EqMixed.eq_str_int (fin_bl I q (by simp))
  |str j=>obtain⟨e,rfl⟩:=b;exact eq_str (fin_bl I q dec_str)
  |_=>exact absurd g Bool.false_ne_true
 |byt i=>
  obtain⟨t,rfl⟩:=k
  cases y with
  |byt j=>obtain⟨e,rfl⟩:=b;exact PySem.W.eq_bytes (fin_bl I q dec_byt)
  |_=>exact absurd g Bool.false_ne_true
 |_=>cases y<;>exact absurd g Bool.false_ne_true
theorem op_ne:OpR X (compareOp .NotEq) rNe:=by
 intro pins s σ H x y v u Q I l b h
 obtain⟨k,q⟩:=h
 cases x with
 |non=>
  cases l
  cases y with
  |non=>cases b;exact PySem.EqNone.ne_none_none (fin_bl I q (by simp))
  |bl j=>cases b;exact PySem.EqNone.ne_none_bool (fin_bl I q (by simp))
  |int j=>obtain⟨e,rfl⟩:=b;exact PySem.EqNone.ne_none_int (fin_bl I q (by simp))
  |str j=>obtain⟨e,rfl⟩:=b;exact PySem.EqNone.ne_none_str (fin_bl I q (by simp))
  |_=>exact absurd k Bool.false_ne_true
 |bl i=>
  cases l
  cases y with
  |non=>cases b;exact PySem.EqNone.ne_bool_none (fin_bl I q (by simp))
  |bl j=>cases b;exact ne_bool (fin_bl I q (congrArg not dec_bl))
  |str j=>obtain⟨e,rfl⟩:=b;exact PySem.EqMixed.ne_bool_str (fin_bl I q (by simp))
  |_=>exact absurd k Bool.false_ne_true
 |int i=>
  obtain⟨t,rfl⟩:=l
  cases y with
  |non=>cases b;exact PySem.EqNone.ne_int_none (fin_bl I q (by simp))
  |int j=>obtain⟨e,rfl⟩:=b;exact ne_int (fin_bl I q (congrArg not dec_int))
  |str j=>obtain⟨e,rfl⟩:=b;exact PySem.EqMixed.ne_int_str (fin_bl I q (by simp))
  |_=>exact absurd k Bool.false_ne_true
 |str i=>
  obtain⟨t,rfl⟩:=l
  cases y with
  |non=>cases b;exact PySem.EqNone.ne_str_none (fin_bl I q (by simp))
  |bl j=>cases b;exact PySem.EqMixed.ne_str_bool (fin_bl I q (by simp))
  |int j=>obtain⟨e,rfl⟩:=b;exact PySem.EqMixed.ne_str_int (fin_bl I q (by simp))
  |str j=>obtain⟨e,rfl⟩:=b;exact ne_str (fin_bl I q (congrArg not dec_str))
  |_=>exact absurd k Bool.false_ne_true
 |byt i=>
  obtain⟨t,rfl⟩:=l
  cases y with
  |byt j=>obtain⟨e,rfl⟩:=b;exact PySem.W.ne_bytes (fin_bl I q (congrArg not dec_byt))
  |_=>exact absurd k Bool.false_ne_true
 |_=>cases y<;>exact absurd k Bool.false_ne_true
theorem op_lt:OpR X (compareOp .Lt) (rI0 fun i j=> .bl (decide (i<j))):=opB0 fun _ _ _ _ _ _ _ q=>lt_int q
theorem op_le:OpR X (compareOp .LtE) (rI0 fun i j=> .bl (decide (i<=j))):=opB0 fun _ _ _ _ _ _ _ q=>le_int q
theorem op_gt:OpR X (compareOp .Gt) (rI0 fun i j=> .bl (decide (j<i))):=opB0 fun _ _ _ _ _ _ _ q=>gt_int q
theorem op_ge:OpR X (compareOp .GtE) (rI0 fun i j=> .bl (decide (j<=i))):=opB0 fun _ _ _ _ _ _ _ q=>ge_int q
theorem op_in_str:OpR X (compareOp .In) (fun x y H Q=>∃i j,x= .str i/\y= .str j/\Q (.bl (!(Builtin.Str.occurrences j i 0 j.length 1).isEmpty)) H):=by
 intro _ s σ H x y v u Q I b a h
 obtain⟨i,j,rfl,rfl,q⟩:=h
 obtain⟨t,rfl⟩:=b
 obtain⟨_,rfl⟩:=a
 exact in_str (fin_bl I q rfl)
theorem op_isN:OpR X (compareOp .Is) (fun x y H Q=>y= .non/\Q (.bl (decide (x= .non))) H):=by
 intro _ s σ H x y v u Q I a b h
 obtain⟨rfl,q⟩:=h
 cases b
 refine is_none_gen (fin_bl I q ?_)
 cases x<;>first
  |(cases a;rfl)
  |(obtain⟨t,rfl⟩:=a;rfl)
theorem op_notN:OpR X (compareOp .IsNot) (fun x y H Q=>y= .non/\Q (.bl (!decide (x= .non))) H):=by
 intro _ s σ H x y v u Q I a b h
 obtain⟨rfl,q⟩:=h
 cases b
 refine isnot_none_gen (fin_bl I q ?_)
 cases x<;>first
  |(cases a;rfl)
  |(obtain⟨t,rfl⟩:=a;rfl)
theorem nomark(b){op}(h:op≠.In:=by decide)(h2:op≠.NotIn:=by decide):behindInMarks op b=false:=by
 cases b<;>simp[behindInMarks,(show(op==CmpOp.In)=false by grind),(show(op==CmpOp.NotIn)=false by grind)]
theorem pe_cmpR{op}{r}(ho:OpR X (compareOp op) r)(ha:PE X a ta)(hb:PE X b tb)(hm:behindInMarks op b=false):PE X (.Compare a [op] [b] pos) (tOp r ta tb):=fun _ s σ H Q I h=>wpAny_Compare1 (binT ha hb I h fun v u g x y f e d c q=>ho _ g σ f x y v u Q e d c q) hm
def tTest(t:TE):TT:=fun σ H Q=>t σ H fun x H'=>∃k,x= .bl k/\Q k H'
theorem pt_cmpR{op}{r}(ho:OpR X (compareOp op) r)(ha:PE X a ta)(hb:PE X b tb)(hm:behindInMarks op b=false):PT X (.Compare a [op] [b] pos) (tTest (tOp r ta tb)):=by
 refine fun d s σ H Q I h=>wpAny_isTrue_Compare1 (thn (ha d s σ H _ I h) fun v o⟨x,f,m,j,p⟩=>thn (hb d o σ f _ m p) fun u n⟨y,A,i,g,B⟩=>
  thn (ho d n σ A x y v u _ i j g B) fun c _ xq1=>?_) hm
 obtain⟨z,q,l,w,k,e,t⟩:=xq1
 subst e
 cases w
 exact wpAny_truthy_bool ⟨q,l,t⟩
def tChain(r r':R2)(ta tb tc:TE):TE:=fun σ H Q=>ta σ H fun x H1=>tb σ H1 fun y H2=>r x y H2 fun z H3=>∃k,z= .bl k/\
 (if k=true then tc σ H3 fun w' H4=>r' y w' H4 Q else Q (.bl false) H3)
theorem pe_chain{op op'}{r r'}(ho:OpR X (compareOp op) r)(ho':OpR X (compareOp op') r')(ha:PE X a ta)(hb:PE X b tb)(hc:PE X c tc)
  (hm:lastMarks [op,op'] [b,c]=false:=by with_unfolding_all rfl):PE X (.Compare a [op,op'] [b,c] pos) (tChain r r' ta tb tc):=by
 refine fun f s σ H Q I h=>Compare_chain (thn (ha f s σ H _ I h) fun v K⟨x,n,F,D,o⟩=>chain_link (thn (hb f K σ n _ F o) fun u J⟨y,M,p,l,t⟩=>
  thn (ho f J σ M x y v u _ p D l t) fun d w xq1=>?_)) hm
 obtain⟨z,i,g,m,k,e,j⟩:=xq1
 subst e
 cases m
 refine wpAny_truthy_bool ?_
 cases k with
 |false=>exact ite_ff ⟨.bl false,i,g,rfl,j⟩
 |_=>exact ite_tt (chain_last (thn (hc f w σ i _ g j) fun G q⟨L,C,A,E,B⟩=>ho' _ q σ C y L u G Q A l E B))
def TruV(K:PySem.W.Frag)(x:V)(H:Hp)(k:Bool):Prop:=
 match x with
 | .non=>k=false
 | .bl b=>k=b
 | .int i=>k=(i !=0)
 | .str y=>y.length<=sizeLine/\k=((y.length:Int) !=0)
 | .byt y=>y.size<=sizeLine/\k=((y.size:Int) !=0)
 | .ref p=>(∃xs,SqL K H p xs/\k= !xs.isEmpty)\/(∃xs,SqT K H p xs/\k= !xs.isEmpty)\/∃kvs,H p=some (.dK kvs)/\k= !kvs.isEmpty
 |_=>False
theorem isEmpty_kv{κ}{kvs}{vs:List (κ×Value)}(r:KV kvs vs):(!vs.isEmpty)= !kvs.isEmpty:=by
 cases r<;>rfl
theorem isEmpty_of{xs}{its}(r:Vals xs its):(!its.toArray.isEmpty)= !xs.isEmpty:=by
 cases r<;>simp
theorem line63:sizeLine<2^63:=by decide
theorem tru_ok:TruR X (fun x H Q=>∃k,TruV X.K x H k/\Q k H):=by
 intro _ s σ H x v Q I f h
 obtain⟨k,e,q⟩:=h
 have _:=sizeLine_eq
 cases x with
 |non=>
  cases f
  have a:=e
  subst a
  exact truthy_none ⟨H,I,q⟩
 |bl b=>
  cases f
  have a:=e
  subst a
  exact wpAny_truthy_bool ⟨H,I,q⟩
 |int i=>
  obtain⟨t,rfl⟩:=f
  have a:=e
  subst a
  exact PySem.P.truthy_int ⟨H,I,q⟩
 |str y=>
  obtain⟨t,rfl⟩:=f
  obtain⟨B,a⟩:y.length<=sizeLine/\k=((y.length:Int) !=0):=e
  subst a
  exact PySem.P.truthy_str (by omega) ⟨H,I.tok _,q⟩
 |byt y=>
  obtain⟨t,rfl⟩:=f
  obtain⟨B,a⟩:y.size<=sizeLine/\k=((y.size:Int) !=0):=e
  subst a
  exact PySem.W.truthy_bytes (by omega) ⟨H,I.tok _,q⟩
 |ref p=>
  cases f
  have a:=e
  rcases a with⟨z,j,a⟩|⟨z,j,a⟩|⟨g,j,a⟩
  ·subst a
   obtain⟨o,r,l,u⟩:=I.list j
   have d:=r.length
   exact wpAny_truthy_list l.isList (by simp[List.size_toArray];omega) ⟨H,I.tok _,by rw[isEmpty_of r];exact q⟩
  ·subst a
   obtain⟨o,r,l,u⟩:=I.tuple j
   have d:=r.length
   exact truthy_tuple l (by simp[List.size_toArray];omega) ⟨H,I.tok _,by rw[isEmpty_of r];exact q⟩
  ·subst a
   obtain⟨u,A,n,r,m⟩:g.length<=sizeLine/\(p==sysModules)=_/\∃n,KV g n/\s.heap.DictOf (mixKind X.prog X.w) p n:=I.hok p _ j
   have d:=Paired.length r
   exact wpAny_truthy_dict A m (by omega) ⟨H,I.tok _,by rw[isEmpty_kv r];exact q⟩
 |_=>exact e.elim
theorem pt_truth(ha:PE X a ta)(he:∀whole,isTrue a X.env whole=(do let v<-whole;standAt a.pos;holding [v] (truthy v))):
  PT X a (fun σ H Q=>ta σ H fun x H'=>∃k,TruV X.K x H' k/\Q k H'):=fun b s σ H Q I h=>isTrue_plain (thn (ha b s σ H _ I h) fun v d⟨x,g,c,f,e⟩=>tru_ok _ d σ g x v Q c f e) (he _)
theorem op_add_str:OpR X (binaryOp .Add) (fun x y H Q=>∃i j,x= .str i/\y= .str j/\i.length+j.length<=sizeLine/\Q (.str (i++j)) H):=by
 intro _ s σ H x y v u Q I d a h
 obtain⟨i,j,rfl,rfl,b,q⟩:=h
 obtain⟨t,rfl⟩:=d
 obtain⟨c,rfl⟩:=a
 exact add_str (fun c _=>⟨.str (i++j),H,I.tok _,⟨_,rfl⟩,q⟩) b
theorem vals1{x}{us}(r:Vals [x] us):∃u,us=[u]/\RelV x u:=by
 cases r with
 |cons a b=>cases b;exact⟨_,rfl,a⟩
theorem vals2{x y}{us}(r:Vals [x,y] us):∃u w',us=[u,w']/\RelV x u/\RelV y w':=by
 cases r with
 |cons _ b=>
  cases b with
  |cons _ c=>cases c;grind
theorem call_max2(hc:X.calm=true):CallR X (.builtin "max") (fun xs H Q=>∃i j,xs=[.int i,.int j]/\Q (.int (if j>i then j else i)) H):=by
 intro _ s σ H xs _ Q I r h
 obtain⟨i,j,rfl,q⟩:=h
 obtain⟨u,_,rfl,⟨t,rfl⟩,⟨_,rfl⟩⟩:=vals2 r
 refine max_two_ints (I.ok.hd hc) fun _ _ k=>⟨_,H,I.kept k,?_,q⟩
 by_cases a:j>i
 ·rw[if_pos a,if_pos a];exact⟨_,rfl⟩
 ·rw[if_neg a,if_neg a];exact⟨_,rfl⟩
end
structure ObjM(h:Heap)(x dx C:Addr)(mA:Str->Option Value):Prop where
 obj:h.get? x=some (PySem.W.instObj C dx)
 ns:h.Ns1 dx mA
 ne:dx≠x
theorem lookIn_ns{h:Heap}{dx}{mA}(n:h.Ns1 dx mA):∃od,h.get? dx=some od/\∀name,PySem.W.lookIn name od=some (mA name):=by
 obtain⟨o,j,_,f,g,d,_,c⟩:=n
 refine⟨o,f,fun name=>?_⟩
 have e:=c name
 unfold nsFind findBy at e
 rw[<-Array.find?_toList]at e
 unfold PySem.W.lookIn
 rw[g]
 dsimp only
 split
 ·simp_all
 ·rename_i q
  rw[q]at e
  have a:j.toList.any (·.refKey)=false:=by
   rw[List.any_eq_false]
   intro y i
   obtain⟨z,t,b⟩:=d y (Array.mem_toList_iff.mp i)
   simp[DictEntry.refKey,b]
  grind
theorem ObjM.look{h}{x dx C}{mA}(I:ObjM h x dx C mA):∃od,PySem.W.InstAt h x (PySem.W.instObj C dx) C (some od)/\∀name,PySem.W.lookIn name od=some (mA name):=
 let⟨od,a,b⟩:=lookIn_ns I.ns
 ⟨od,⟨I.obj,rfl,rfl,a⟩,b⟩
section
variable{prog:Program}{w:World}{A:Around}{E:Value->Shared->Prop}{s:Shared}{K:PySem.W.Frag}{x dx C f:Addr}{mA:Str->Option Value}{name:Str}{v:Value}
theorem get_map{expr}{Q}(X:K.In s.heap)(I:ObjM s.heap x dx C mA)(hg:PySem.W.plainGet K C name=true)(hh:PySem.W.hasDictIn K C=true)
  (ha:PySem.W.findIn K (.ref C) name=some none)(hv:mA name=some v)(hv':PySem.W.handedIn v=true)(h:Q v {s with toks:=s.toks+1}):
  wpAny (model prog w) A (getAttr (.ref x) name expr) Q E s:=by
 obtain⟨_,J,a⟩:=I.look
 exact PySem.W.get_value X J (PySem.W.plainGet_of hg).1 (PySem.W.findObj_own hh ha rfl (by rw[a,hv])) hv' h
theorem get_meth{pl}{Q}(X:K.In s.heap)(I:ObjM s.heap x dx C mA)(hg:PySem.W.plainGet K C name=true)
  (hf:PySem.W.findIn K (.ref C) name=some (some (.ref f)))(ht:PySem.W.isFn K (.ref f)=true)(hv:mA name=none)(h:Q (.ref f,[.ref x]) s):
  wpAny (model prog w) A (getMethod (.ref x) name pl) Q E s:=by
 obtain⟨a,J,b⟩:=I.look
 exact PySem.W.method_fn X J (PySem.W.plainGet_of hg).1 (PySem.W.plainGet_of hg).2 hf (beq_iff_eq.mp ht) (by show(PySem.W.lookIn name a).map (·.isSome)=some _;rw[b,hv];rfl) h
theorem set_map{ns}{Q}(X:K.In s.heap)(I:ObjM s.heap x dx C mA)
  (hs:PySem.W.findIn K (.ref C) "__setattr__"=some (some (.builtin "object.__setattr__")))(hp:PySem.W.plainOver K C=true)(ht:PySem.W.takerIn K C name=some none)(hh:PySem.W.hasDictIn K C=true)
  (hw:PySem.Within mA ns)(hsz:ns.length<=sizeLine)
  (h:∀h',ObjM h' x dx C (fun y=>if y=name then some v else mA y)->Heap.SameBut dx s.heap h'->Q () {s with heap:=h',toks:=s.toks+2}):
  wpAny (model prog w) A (setAttr (.ref x) name v) Q E s:=by
 obtain⟨_,J,_⟩:=I.look
 refine PySem.W.set_plain X J hs (PySem.W.osa_open X J hp ht fun b=>?_)
 obtain⟨_,i,d⟩:=PySem.W.any_some hh
 refine wpAny_bind (wpAny_pure (wpAny_bind (wpAny_bind (wpAny_loadPart I.obj (wpAny_bind (PySem.W.Looks.here (PySem.W.looks_clsIn X i) ?_))))))
 rw[d]
 refine wpAny_pure (wpAny_bind (wpAny_pure (wpAny_bind (wpAny_nsSet1 I.ns fun h' c a=>?_))))
 obtain⟨_,_,_,g,e,f⟩:=c.count (PySem.Within.cons name v hw)
 exact wpAny_bind (wpAny_lookBehind g (by rw[e];exact pastItsLine_dict (Nat.le_trans f (by simp_all))) (wpAny_pure (h _ ⟨(a.2 _ (Ne.symm I.ne)).trans I.obj,c,I.ne⟩ a)))
theorem make_map{R}{vs}{kw}(X:K.In s.heap)(hm:PySem.W.makesIn K C=true)
  (hi:PySem.W.findIn K (.ref C) "__init__"=some (some (.ref f)))(hf:PySem.W.typeIn K (.ref f)=some (.type "function"))
  (h:codeAny (model prog w) (A.under (.builtin "type.__call__" ⟨.ref C::vs,kw⟩)) (.call (.ref f) ⟨.ref (s.heap.objs.size+1)::vs,kw⟩) (PySem.W.InitBack (s.heap.objs.size+1) R)
   {s with heap:=(s.heap.push PySem.W.emptyDict).push (PySem.W.instObj C s.heap.objs.size)}):
  codeAny (model prog w) A (.call (.ref C) ⟨vs,kw⟩) R s:=by
 obtain⟨_,g,d,t,os⟩:=s
 exact PySem.W.make_core (PySem.W.makes_of X hm) (PySem.W.looks_findIn X hi) (fun _=>PySem.W.bind_fn X _ hf) (.inl rfl) h
theorem make_map0{R}(X:K.In s.heap)(hm:PySem.W.makesIn K C=true)
  (hi:PySem.W.findIn K (.ref C) "__init__"=some (some (.builtin "object.__init__")))
  (hb:∀self,PySem.W.Looks (model prog w) s.heap (bindSpecial (.builtin "object.__init__") self) (.builtin "object.__init__",[self]))
  (h:codeAny (model prog w) (A.under (.builtin "type.__call__" ⟨[.ref C],[]⟩)) (.call (.builtin "object.__init__") ⟨[.ref (s.heap.objs.size+1)],[]⟩) (PySem.W.InitBack (s.heap.objs.size+1) R)
   {s with heap:=(s.heap.push PySem.W.emptyDict).push (PySem.W.instObj C s.heap.objs.size)}):
  codeAny (model prog w) A (.call (.ref C) ⟨[],[]⟩) R s:=by
 obtain⟨_,g,d,t,os⟩:=s
 exact PySem.W.make_core (PySem.W.makes_of X hm) (PySem.W.looks_findIn X hi) hb (.inr ⟨rfl,rfl⟩) h
end
def putF(f:Str)(v:V):List (Str×V)->List (Str×V)
 |[]=>[(f,v)]
 |(g,x)::r=>if g=f then(g,v)::r else(g,x)::putF f v r
theorem lookup_putF(f g)(v):∀fs:List _,(putF f v fs).lookup g=if g=f then some v else fs.lookup g
 |[]=>by
  show List.lookup g [(f,v)]=_
  by_cases h:g=f
  ·simp_all
  ·simp_all
 |(k,x)::r=>by
  rw[show putF f v _=(if k=f then(k,v)::r else(k,x)::putF f v r)from rfl]
  by_cases a:k=f
  ·rw[if_pos a]
   by_cases h:g=k
   ·simp_all
   ·simp[List.lookup,(beq_eq_false_iff_ne.mpr h),if_neg (fun e:g=f=>h (e.trans a.symm))]
  ·rw[if_neg a]
   by_cases h:g=k
   ·simp_all
   ·simp[List.lookup,(beq_eq_false_iff_ne.mpr h)]
    exact(lookup_putF f g v r)
theorem keys_putF(f)(v):∀fs:List (Str×V),f∈(putF f v fs).map (·.1)/\∀g,g∈fs.map (·.1)->g∈(putF f v fs).map (·.1)
 |[]=>⟨by simp[putF],fun g h=>by simp at h⟩
 |(k,x)::r=>by
  obtain⟨_,_⟩:=keys_putF f v r
  rw[show putF f v _=(if k=f then(k,v)::r else(k,x)::putF f v r)from rfl]
  grind
theorem length_putF(f)(v):∀fs:List _,(putF f v fs).length<=fs.length+1
 |[]=>by simp[putF]
 |(k,x)::r=>by
  have _:=length_putF f v r
  rw[show putF f v _=(if k=f then(k,v)::r else(k,x)::putF f v r)from rfl]
  (split<;>simp_all)
theorem RelO.some_of{v}{o:Option _}(r:RelO (some v) o):∃u,o=some u/\RelV v u:=by
 cases o with
 |none=>exact r.elim
 |some u=>exact⟨u,rfl,r⟩
theorem RelO.none_of{o:Option _}(r:RelO none o):o=none:=by
 cases o with
 |none=>rfl
 |_ u=>exact r.elim
theorem handed_of{v}{u}(r:RelV v u):PySem.W.handedIn u=true:=by
 cases v with
 |non=>cases r;rfl
 |bl b=>cases r;rfl
 |int i=>obtain⟨t,e⟩:=r;cases e;rfl
 |str x=>obtain⟨t,e⟩:=r;cases e;rfl
 |byt b=>obtain⟨t,e⟩:=r;cases e;rfl
 |flt b=>obtain⟨t,e⟩:=r;cases e;rfl
 |ref a=>cases r;rfl
 |_ n=>cases r;rfl
section
variable{P:Program}{w:World}{H H':Hp}{h h':Heap}{a C dx:Addr}{fs fs':List (Str×V)}
theorem ins_get(hok:HOk P w H h)(e:H a=some (.ins C dx fs)):∃mA,ObjM h a dx C mA/\(∀f,RelO (fs.lookup f) (mA f))/\PySem.Within mA (fs.map (·.1))/\fs.length<=1000/\H dx=some (.own a):=by
 obtain⟨d,z,b,c,mA,n,r,q⟩:=(hok a _ e)
 exact⟨mA,⟨c,n,b⟩,r,q,z,d⟩
end
structure Cls(K:PySem.W.Frag)(C:Addr):Prop where
 pg:PySem.W.plainGet K C Str.empty=true
 hd:PySem.W.hasDictIn K C=true
 po:PySem.W.plainOver K C=true
 sa:PySem.W.findIn K (.ref C) "__setattr__"=some (some (.builtin "object.__setattr__"))
theorem Cls.get{K}{C}(c:Cls K C)(f):PySem.W.plainGet K C f=true:=c.pg
def NoAttr(K:PySem.W.Frag)(C:Addr)(f:Str):Prop:=PySem.W.findIn K (.ref C) f=some none
theorem NoAttr.taker{K}{C}{f}(n:NoAttr K C f):PySem.W.takerIn K C f=some none:=by
 unfold PySem.W.takerIn
 rw[n]
 rfl
structure Meth(K:PySem.W.Frag)(C:Addr)(m:Str)(f:Addr):Prop where
 at_:PySem.W.findIn K (.ref C) m=some (some (.ref f))
 fn:PySem.W.isFn K (.ref f)=true
 kp:PySem.W.keepIn K (.ref f)=true
section
variable{X:Cx}{pins:List (Addr×Obj)}{σ:St}{H:Hp}{s:Shared}{a C dx:Addr}{fs:List (Str×V)}{f:Str}{v:V}{A:Around}{E:Value->Shared->Prop}
theorem getattr_ok{b:Bool}{Q:Value->Shared->Prop}(I:Inv X pins σ H s)(e:H a=some (.ins C dx fs))(c:Cls X.K C)(n:NoAttr X.K C f)(l:fs.lookup f=some v)
  (h:∀u s',Inv X pins σ H s'->RelV v u->Q u s'):wpAny (model X.prog X.w) A (getAttr (.ref a) f b) Q E s:=by
 obtain⟨g,O,r,_,_,_⟩:=ins_get I.hok e
 obtain⟨u,i,d⟩:=RelO.some_of (v:=v) (o:=g f) (by grind)
 exact get_map I.kIn O (c.get f) c.hd n i (handed_of d) (h u _ (I.tok _) d)
theorem getmeth_ok{m}{g}{pl}{Q:Value×List _->Shared->Prop}(I:Inv X pins σ H s)(e:H a=some (.ins C dx fs))(c:Cls X.K C)(k:Meth X.K C m g)(l:fs.lookup m=none)
  (h:Q (.ref g,[.ref a]) s):wpAny (model X.prog X.w) A (getMethod (.ref a) m pl) Q E s:=by
 obtain⟨_,O,r,_,_,_⟩:=ins_get I.hok e
 exact get_meth I.kIn O (c.get m) k.at_ k.fn (RelO.none_of (by rw[<-l];exact r m)) h
theorem setattr_ok{y}{u}{Q}(I:Inv X pins σ H s)(e:H a=some (.ins C dx fs))(c:Cls X.K C)(n:NoAttr X.K C f)(hl:fs.length<1000)(ry:RelV y u)
  (h:∀s',Inv X pins σ (upd H a (.ins C dx (putF f y fs))) s'->Q () s'):wpAny (model X.prog X.w) A (setAttr (.ref a) f u) Q E s:=by
 obtain⟨_,O,r,j,_,i⟩:=ins_get I.hok e
 refine set_map I.kIn O c.sa c.po n.taker c.hd j (show(fs.map _).length<=sizeLine by rw[List.length_map,sizeLine_eq];omega) fun k d p=>h _ (I.write (by rw[e];exact True.intro) (.inr i) (fun b q t z=>(p.2 b t).trans z) (show∃o,k.get? dx=some o from let⟨o,_,_,m,_⟩:=d.ns;⟨o,m⟩) ?_)
 refine⟨by rw[upd_ne O.ne];exact i,?_,O.ne,d.obj,_,d.ns,fun g=>?_,fun g l=>?_⟩
 ·have:=length_putF f y fs;omega
 ·rw[lookup_putF]
  by_cases q:g=f
  ·rw[if_pos q,if_pos q];exact ry
  ·simp_all
 ·by_cases q:g=f
  ·rw[q];exact(keys_putF f y fs).1
  ·refine(keys_putF f y fs).2 g (j g fun z=>l ?_)
   simp_all
theorem Inv.made(I:Inv X pins σ H s):Inv X pins σ (upd (upd H s.heap.objs.size (.own (s.heap.objs.size+1))) (s.heap.objs.size+1) (.ins C s.heap.objs.size []))
  {s with heap:=(s.heap.push PySem.W.emptyDict).push (PySem.W.instObj C s.heap.objs.size)}:=by
 have f:(s.heap.push _).get? _=some PySem.W.emptyDict:=Heap.get?_push_size _ rfl
 have j:((s.heap.push PySem.W.emptyDict).push (PySem.W.instObj C s.heap.objs.size)).get? (s.heap.objs.size+1)=some (PySem.W.instObj C s.heap.objs.size):=by
  have:=Heap.get?_push_size (s.heap.push PySem.W.emptyDict) (o:=PySem.W.instObj C s.heap.objs.size) rfl
  simp_all
 refine(I.laid (o:= .own (s.heap.objs.size+1)) (t':=s.toks) (fun b u q=>Heap.get?_push_of_some _ q) (Nat.le_refl _) ⟨_,f⟩).laid (fun b u q=>Heap.get?_push_of_some _ q) (Nat.le_of_eq (Heap.size_push _ _)) ?_
 have g:s.heap.objs.size≠s.heap.objs.size+1:=Nat.ne_of_lt (Nat.lt_succ_self _)
 refine⟨by rw[upd_ne g,upd_same],Nat.zero_le _,g,j,fun _=>none,(Heap.Ns1.of_empty (show(s.heap.push _).Ns _ (fun _=>none)from⟨_,_,_,f,rfl,(fun e i=>absurd i (by simp)),fun _=>rfl⟩)).at fun o q=>Heap.get?_push_of_some _ q,fun _=>True.intro,fun y h=>absurd rfl h⟩
theorem attr_of{prog}{w}{env}{e}{f}{pos}{s}{Q}(hb:attributeBase e f env (eval e env)=eval e env)
  (h:wpAny (model prog w) A (eval e env) (fun o s₁=>wpAny (model prog w) A (getAttr o f true) Q E s₁) E s):wpAny (model prog w) A (eval (.Attribute e f pos) env) Q E s:=
 Attribute_any_ h (by rw[arm_eval_Attribute,hb])
end
def tFld(K:PySem.W.Frag)(ta:TE)(f:Str):TE:=fun σ H Q=>ta σ H fun x H1=>∃a C dx fs v,x= .ref a/\H1 a=some (.ins C dx fs)/\Cls K C/\NoAttr K C f/\fs.lookup f=some v/\Q v H1
def sFld(K:PySem.W.Frag)(ta tv:TE)(f:Str):TS:=fun D σ H=>tv σ H fun y H1=>ta σ H1 fun x H2=>∃a C dx fs,x= .ref a/\H2 a=some (.ins C dx fs)/\Cls K C/\NoAttr K C f/\fs.length<1000/\
 D.nx σ (upd H2 a (.ins C dx (putF f y fs)))
section
variable{X:Cx}{o e value:Expr}{f:Str}{pos pos' tpos:Pos}{ta tv:TE}
theorem pe_fld(he:PE X e ta)(hb:attributeBase e f X.env (eval e X.env)=eval e X.env):PE X (.Attribute e f pos) (tFld X.K ta f):=by
 refine fun b s σ H Q I h=>attr_of hb (thn (he b s σ H _ I h) fun u _ xq1=>?_)
 obtain⟨x,m,g,d,a,C,_,_,v,j,o,c,n,l,q⟩:=xq1
 subst j
 obtain rfl:u=Value.ref a:=d
 exact getattr_ok g o c n l fun _ _ k i=>⟨v,m,k,i,q⟩
theorem ps_fld(ha:PE X o ta)(hv:PE X value tv)(hs:swapsWith value (some (.Attribute o f pos')) pos.line X.env=pure false):PS X (.Assign [.Attribute o f pos'] value pos) (sFld X.K ta tv f):=by
 refine fun b s σ H D I h=>plainObj_wpAny_Assign_Attribute (thn (hv b s σ H _ I h) fun u r⟨y,e,g,d,q⟩=>thn (ha b r σ e _ g q) fun v _ xq1=>?_) hs
 obtain⟨x,_,j,p,a,C,_,_,i,k,c,n,l,t⟩:=xq1
 subst i
 obtain rfl:v=Value.ref a:=p
 exact setattr_ok j k c n l d fun _ m=>⟨σ,_,m,t⟩
theorem methcall_of{pl:Sem _}{m}{apos}{args:List _}{pins:List (Addr×Obj)}{s}{σ:St}{H}{Q:Value->Shared->Prop}{te}(he:PE X e te)(I:Inv X pins σ H s)
  (h:te σ H fun x H1=>∃a C dx fs g,x= .ref a/\H1 a=some (.ins C dx fs)/\Cls X.K C/\Meth X.K C m g/\fs.lookup m=none/\
   ∀s1,Inv X pins σ H1 s1->wpAny (model X.prog X.w) X.A (callWith pos (.ref g) [.ref a] (backTo pos (starEach args X.env)) (backToKw pos (keywordEach [] X.env))) Q X.xe s1)
  (ht:eval (.Call (.Attribute e m apos) args [] pos) X.env=(do
   let ov<-eval e X.env
   standAt apos.atName
   let(f,first)<-holding [ov] (getMethod ov m pl)
   callWith pos f first (backTo pos (starEach args X.env)) (backToKw pos (keywordEach [] X.env)))):
  wpAny (model X.prog X.w) X.A (eval (.Call (.Attribute e m apos) args [] pos) X.env) Q X.xe s:=by
 refine PySem.W.methodCall_KW (pl:=pl) (thn (he pins s σ H _ I h) fun u s1 xq1=>?_) ht
 obtain⟨x,H1,b,j,a,C,dx,fs,g,i,d,c,k,l,q⟩:=xq1
 subst i
 obtain rfl:u=Value.ref a:=j
 exact getmeth_ok b d c k l (q s1 b)
end
section
variable{X:Cx}{pins:List (Addr×Obj)}{σ:St}{H:Hp}{s:Shared}{A:Around}{E:Value->Shared->Prop}{Q:Value->Shared->Prop}{c:Value}{b:Bool}
inductive TyOf(K:PySem.W.Frag)(H:Hp):V->Value->Prop where
 |non:TyOf K H .non (.type "NoneType")
 |bl (x:Bool):TyOf K H (.bl x) (.type "bool")
 |int (i:Int):TyOf K H (.int i) (.type "int")
 |str (x:Str):TyOf K H (.str x) (.type "str")
 |flt (x:UInt64):TyOf K H (.flt x) (.type "float")
 |lst {a:Addr} {xs:List V} (e:H a=some (.lst xs)):TyOf K H (.ref a) (.type "list")
 |frz {a:Addr} {o:Obj} {xs:List V} (e:H a=some (.frz o (.lst xs))):TyOf K H (.ref a) (.type "list")
 |tup {a:Addr} {xs:List V} (e:H a=some (.tup xs)):TyOf K H (.ref a) (.type "tuple")
 |dK {a:Addr} {kvs:List (Key×V)} (e:H a=some (.dK kvs)):TyOf K H (.ref a) (.type "dict")
 |dT {a:Addr} {kvs:List (List Key×V)} (e:H a=some (.dT kvs)):TyOf K H (.ref a) (.type "dict")
 |ins {a C dx:Addr} {fs:List (Str×V)} (e:H a=some (.ins C dx fs)) (cl:Cls K C) (ha:PySem.W.findIn K (.ref C) "__class__"=some (some (.builtin "object.__class__")))
   (hn:PySem.W.specialIn K (.builtin "object.__class__") "__get__"=some (some (.builtin "getset_descriptor.__get__"))) (htk:PySem.W.takesIn K (.builtin "object.__class__")=some true)
   (hm:PySem.W.mroIn K C (.type "object")=some true):TyOf K H (.ref a) (.ref C)
theorem isinst_ok{x}{u t:Value}(I:Inv X pins σ H s)(rx:RelV x u)(ty:TyOf X.K H x t)(e:PySem.W.kitOne X.K t c=some b)(h:∀tk,Q (.bool b) {s with toks:=tk}):
  wpAny (model X.prog X.w) A (call (.builtin "isinstance") [u,c]) Q E s:=by
 cases ty with
 |non=>cases rx;exact PySem.W.kia_one PySem.W.kitx_none I.kIn True.intro e (fun z=>nomatch z) h
 |bl y=>cases rx;exact PySem.W.kia_one PySem.W.kitx_bool I.kIn True.intro e (fun z=>nomatch z) h
 |int i=>obtain⟨t,q⟩:=rx;cases q;exact PySem.W.kia_one PySem.W.kitx_int I.kIn True.intro e (fun z=>nomatch z) h
 |str y=>obtain⟨t,q⟩:=rx;cases q;exact PySem.W.kia_one PySem.W.kitx_str I.kIn True.intro e (fun z=>nomatch z) h
 |flt y=>obtain⟨t,q⟩:=rx;cases q;exact PySem.W.kia_one PySem.W.kitx_float I.kIn True.intro e (fun z=>nomatch z) h
 |@lst a j d=>
  cases rx
  obtain⟨_,_,n,_,f⟩:=(I.hok a _ d)
  exact PySem.W.kia_one PySem.W.kitx_list I.kIn ⟨_,f,rfl⟩ e (fun z=>nomatch z) h
 |@frz a _ j d=>
  cases rx
  obtain⟨_,_,_,n,_,f⟩:=(I.hok a _ d)
  exact PySem.W.kia_one PySem.W.kitx_list I.kIn ⟨_,f,rfl⟩ e (fun z=>nomatch z) h
 |@tup a j d=>
  cases rx
  obtain⟨_,_,_,p⟩:=(I.hok a _ d)
  obtain⟨o,f,g,_⟩:=p
  exact PySem.W.kia_one PySem.W.kitx_tuple I.kIn ⟨o,f,g⟩ e (fun z=>nomatch z) h
 |@dK a k d=>
  cases rx
  obtain⟨_,_,_,_,p⟩:=(I.hok a _ d)
  obtain⟨o,r,D,f,g,_⟩:=p
  exact PySem.W.kia_one PySem.W.kitx_dict I.kIn ⟨o,f,g.1⟩ e (fun z=>nomatch z) h
 |@dT a k d=>
  cases rx
  obtain⟨_,_,j,_,o,r,D,f,g,_⟩:=(I.hok a _ d)
  exact PySem.W.kia_one PySem.W.kitx_dict I.kIn ⟨o,f,g.1⟩ e (fun z=>nomatch z) h
 |@ins a C _ _ d m v F l B=>
  cases rx
  obtain⟨_,O,_⟩:=ins_get I.hok d
  obtain⟨_,J,_⟩:=O.look
  exact PySem.W.kia_one (PySem.W.kitx_own (m.get _) m.hd v F l B) I.kIn J e (fun z=>nomatch z) h
end
structure Room(k:Nat)(A:Around):Prop where
 hd:A.handled=none
 dp:A.depth+3*k+5<recursionLimit
 un:A.units+16*k+200<cLine
theorem Room.mono{j k}{A}(r:Room k A)(h:j<=k):Room j A:=⟨r.hd,by have:=r.dp;omega,by have:=r.un;omega⟩
theorem Room.deeper{k}{A}(r:Room (k+1) A)(env:Env):Room k (A.deeper env):=
 ⟨r.hd,by have:=r.dp;show A.depth+1+3*k+5<_;omega,by have:=r.un;show A.units+3+16*k+200<_;omega⟩
theorem Room.in1{k}{A:Around}(r:Room (k+1) A):Room k A.in1:=
 ⟨r.hd,by have:=r.dp;grind,by have:=r.un;grind⟩
theorem make_depth{A:Around}{C}{us}{kw}:(A.under (.builtin "type.__call__" ⟨.ref C::us,kw⟩)).depth=A.depth+1:=by
 first|rfl|omega
theorem make_units{A:Around}{C:Addr}{us:List _}{kw:List _}:(A.under (.builtin "type.__call__" ⟨.ref C::us,kw⟩)).units=A.units+1:=by
 first|rfl|omega
theorem Room.make{k}{A}(r:Room (k+1) A)(C)(us)(kw):Room k (A.under (.builtin "type.__call__" ⟨.ref C::us,kw⟩)):=
 ⟨r.hd,by have:=r.dp;rw[make_depth];omega,by have:=r.un;rw[make_units];omega⟩
theorem Room.depth{k}{A}(r:Room k A):A.depth<recursionLimit:=by have:=r.dp;omega
theorem Room.units{k}{A}(r:Room k A):A.units+64<cLine:=by have:=r.un;omega
def tNil:TA:=fun _ H Q=>Q [] H
def tCons(ta:TE)(tr:TA):TA:=fun σ H Q=>ta σ H fun x H1=>tr σ H1 fun xs H2=>Q (x::xs) H2
section
variable{X:Cx}{e:Expr}{es:List Expr}{te:TE}{t:TA}{pos:Pos}
theorem pa_nil:PA X [] tNil:=fun _ _ _ _ H Q I h=>Calls.spliced_nil ⟨[],H,I,.nil,h⟩
theorem pa_cons(ha:PE X e te)(hr:PA X es t)(hs:starEach (e::es) X.env=(false,eval e X.env)::starEach es X.env:=by rfl):PA X (e::es) (tCons te t):=by
 intro b a s σ H Q I h
 rw[hs]
 exact Calls.spliced_cons (thn (ha a s σ H _ I h) fun u i⟨x,k,d,m,f⟩=>thn (hr b a i σ k _ d f) fun _ _⟨_,l,g,j,c⟩=>⟨_,l,g,.cons m j,c⟩)
def tTup(t:TA):TE:=fun σ H Q=>t σ H fun xs H1=>xs.length<=sizeLine/\∀p,H1 p=none->Q (.ref p) (upd H1 p (.tup xs))
def tLst(t:TA):TE:=fun σ H Q=>t σ H fun xs H1=>xs.length<=sizeLine/\∀p,H1 p=none->Q (.ref p) (upd H1 p (.lst xs))
theorem pe_tup{x1}(h:PA X es t):PE X (.Tuple es x1 pos) (tTup t):=by
 refine fun a s σ H Q I g=>wpAny_Tuple_spliced (thn (h pos a s σ H _ I g) fun f d⟨_,_,c,r,z,q⟩=>⟨by rw[<-r.length];exact z,.ref d.heap.objs.size,_,c.laid (fun b u e=>Heap.get?_push_of_some _ e) (Nat.le_refl _) ?_,rfl,q _ (c.hok.fresh (Nat.le_refl _))⟩)
 exact⟨z,f,r,⟨_,Heap.get?_push_size _ rfl,rfl,_,rfl⟩⟩
theorem pe_lst(h:PA X es t):PE X (.List es pos) (tLst t):=by
 refine fun a s σ H Q I g=>wpAny_List_spliced (thn (h pos a s σ H _ I g) fun f d⟨_,_,c,r,z,q⟩=>⟨by rw[<-r.length];exact z,.ref d.heap.objs.size,_,c.laid (fun b u e=>Heap.get?_push_of_some _ e) (Nat.le_refl _) ?_,rfl,q _ (c.hok.fresh (Nat.le_refl _))⟩)
 exact⟨z,f,0,r,Heap.get?_push_size _ rfl⟩
end
abbrev Sp:=List V->Hp->VK->XK->Prop
abbrev CXT:=List Env->Hp->Shared->XK->Value->Shared->Prop
structure Env0(P:Program)(w:World)(K:PySem.W.Frag)(mg:Str->Option Value)(base:Heap)(A:Around)(outer:List Env)(s:Shared)(H:Hp):Prop where
 frames:A.frames=some outer
 mod:Mod K mg base
 bs:∀b o,base.get? b=some o->s.heap.get? b=some o/\H b=none
 bsz:base.objs.size<=s.heap.objs.size
 funs:s.heap.FunFrames base outer
 frf:∀b∈frs outer,H b=none
 hok:HOk P w H s.heap
 bare:AllBare s.gens
def CE(outer:List Env)(P:Program)(w:World)(H:Hp)(s:Shared)(Q:VK)(u:Value)(s':Shared):Prop:=
 ∃v H',s'.os=s.os/\AllBare s'.gens/\Un (frs outer) [] H H' s.heap s'.heap/\HOk P w H' s'.heap/\RelV v u/\Q v H'
def CR(CX:CXT)(outer:List Env)(P:Program)(w:World)(H:Hp)(s:Shared)(Q:VK)(E:XK)(r:Result)(s':Shared):Prop:=
 match r with
 | .ok (.ret u)=>CE outer P w H s Q u s'
 | .ok _=>False
 | .error e=>CX outer H s E e s'
structure FnOk(P:Program)(w:World)(K:PySem.W.Frag)(mg:Str->Option Value)(base:Heap)(CX:CXT)(k:Nat)(f:Addr)(fd:FuncData)(ps:List Str)(sp:Sp):Prop where
 len:∀vs H Q E,sp vs H Q E->vs.length=ps.length
 run:∀(A:Around)(outer:List Env)(s:Shared)(H:Hp)(args:Args)(us:List Value)(vs:List V)(Q:VK)(E:XK),Room k A->Env0 P w K mg base A outer s H->BindsTo s fd args (ps.zip us)->Vals vs us->sp vs H Q E->
  codeAny (model P w) A (.call (.ref f) args) (CR CX outer P w H s Q E) s
theorem FnOk.mono{P}{w}{K}{mg}{base}{CX}{j k}{f}{fd}{ps:List _}{sp:Sp}(F:FnOk P w K mg base CX j f fd ps sp)(h:j<=k):
  FnOk P w K mg base CX k f fd ps sp:=⟨F.len,fun A _ s H _ c a Q E b=>F.run A _ s H _ c a Q E (b.mono h)⟩
theorem FnOk.imp{P}{w}{K}{mg}{base}{CX}{k}{f}{fd}{ps}{sp sp'}(F:FnOk P w K mg base CX k f fd ps sp)
  (h:∀vs H Q E,sp' vs H Q E->sp vs H Q E):FnOk P w K mg base CX k f fd ps sp':=
 ⟨fun vs H Q E q=>F.len vs H Q E (h _ _ _ _ q),fun A _ s H _ e vs Q E b c a g d=>F.run A _ s H _ e vs Q E b c a g (h _ _ _ _ d)⟩
theorem Env0.make{P}{w}{K}{mg}{base}{A}{outer}{s}{H}(e:Env0 P w K mg base A outer s H)(C:Addr)(us:List _)(kw:List _):
  Env0 P w K mg base (A.under (.builtin "type.__call__" ⟨.ref C::us,kw⟩)) outer s H:=⟨by first|exact e.frames|omega,e.mod,e.bs,e.bsz,e.funs,e.frf,e.hok,e.bare⟩
theorem Env0.in1{P:Program}{w:World}{K:PySem.W.Frag}{mg:Str->Option _}{base:Heap}{A:Around}{outer:List _}{s:Shared}{H:Hp}(e:Env0 P w K mg base A outer s H):
  Env0 P w K mg base A.in1 outer s H:=⟨e.frames,e.mod,e.bs,e.bsz,e.funs,e.frf,e.hok,e.bare⟩
section
variable{X:Cx}{pins:List (Addr×Obj)}{σ:St}{H:Hp}{s s':Shared}
theorem Inv.env0(I:Inv X pins σ H s):Env0 X.prog X.w X.K X.mg X.base X.A X.stack s H:=
 ⟨I.ok.frames,I.ok.mod,I.bs,Nat.le_trans I.ok.bsz I.sz,I.stack,I.stkFree,I.hok,I.bare⟩
theorem Inv.after{Q}{u}(I:Inv X pins σ H s)(h:CE X.stack X.prog X.w H s Q u s'):EP X pins σ Q u s':=by
 obtain⟨v,i,os,a,f,e,r,q⟩:=h
 obtain⟨_,g,d,t,c⟩:=s'
 obtain rfl:c=s.os:=os
 exact⟨v,i,I.call f e a (fun b z=>absurd z (by simp)),r,q⟩
end
def tCall(sp:Sp)(dvs:List V)(E:XK)(t:TA):TE:=fun σ H Q=>t σ H fun vs H1=>sp (vs++dvs) H1 Q E
def tMeth(C:Addr)(m:Str)(sp:Sp)(dvs:List V)(E:XK)(ta:TE)(t:TA):TE:=fun σ H Q=>ta σ H fun x H1=>∃a dx fs,x= .ref a/\H1 a=some (.ins C dx fs)/\fs.lookup m=none/\
 t σ H1 fun vs H2=>sp (x::(vs++dvs)) H2 Q E
def tMake(C:Addr)(sp:Sp)(dvs:List V)(E:XK)(t:TA):TE:=fun σ H Q=>t σ H fun vs H1=>∀x dx,H1 x=none->H1 dx=none->dx≠x->
 sp (.ref x::(vs++dvs)) (upd (upd H1 dx (.own x)) x (.ins C dx [])) (fun v H2=>v= .non/\Q (.ref x) H2) E
def Binds(K:PySem.W.Frag)(fd:FuncData)(ps:List Str)(ds:List Value):Prop:=
 ∀(s:Shared)(us:List Value),K.In s.heap->(us++ds).length=ps.length->BindsTo s fd ⟨us,[]⟩ (ps.zip (us++ds))
theorem Binds.all{K}{fd}{ps}(h:∀us:List _,us.length=ps.length->bindArgs fd ⟨us,[]⟩=pure (ps.zip us)):Binds K fd ps []:=fun s us _ a=>by
 rw[List.append_nil]at a⊢
 exact .of_eq (h us a)
def Passes(CX:CXT)(X:Cx)(E:XK):Prop:=∀(pins)(σ:St)(H)(s)(e)(s'),Inv X pins σ H s->CX X.stack H s E e s'->X.xe e s'
section
variable{X:Cx}{CX:CXT}{k:Nat}{f C:Addr}{fd:FuncData}{ps:List Str}{sp:Sp}{dvs:List V}{ds:List Value}{E:XK}{x m:Str}{p pos apos:Pos}{e o:Expr}{es:List Expr}{ta:TE}{t:TA}
theorem run_fn{pins}{σ:St}{H}{s}{Q}{us}{vs}(F:FnOk X.prog X.w X.K X.mg X.base CX k f fd ps sp)(hr:Room k X.A)(hb:Binds X.K fd ps ds)(hd:Vals dvs ds)(hx:Passes CX X E)
  (I:Inv X pins σ H s)(r:Vals vs us)(h:sp (vs++dvs) H Q E):wpAny (model X.prog X.w) X.A (call (.ref f) us) (EP X pins σ Q) X.xe s:=by
 have b:=r.append hd
 refine wpAny_call (codeAny_mono (F.run _ _ s H _ _ _ Q E hr I.env0 (hb s us I.kIn (show(us++ds).length=ps.length by rw[<-b.length];exact F.len _ _ _ _ h)) b h) fun r d a=>?_)
 cases r with
 |error e=>exact hx _ σ H s e d I a
 |_ c=>
  cases c with
  |ret u=>exact I.after a
  |next=>exact False.elim a
  |brk=>exact False.elim a
  |_=>exact False.elim a
theorem pe_call(F:FnOk X.prog X.w X.K X.mg X.base CX k f fd ps sp)(hr:Room k X.A)(hg:Gl X x)(hm:X.mg x=some (.ref f))(hk:PySem.W.keepIn X.K (.ref f)=true)(hb:Binds X.K fd ps ds)(hd:Vals dvs ds)(hx:Passes CX X E)
  (ha:PA X (e::es) t)(hdb:(x==("__debug__":Str))=false:=by decide)(he:starEach (e::es) X.env=(false,eval e X.env)::starEach es X.env:=by rfl)(hpl:(backTo pos (starEach es X.env)).any (·.1)=false:=by rfl):
  PE X (.Call (.Name x p) (e::es) [] pos) (tCall sp dvs E t):=fun a s σ H Q I h=>wpAny_Call_Name_kw (ld_glob I hg hm (PySem.W.callWith_K (h₀:=X.base) I.ok.mod.kin hk (thn (ha pos a s σ H _ I h) fun _ _⟨_,_,b,r,q⟩=>⟨b.kIn,run_fn F hr hb hd hx b r q⟩) he hpl) hdb)
theorem pe_call0(F:FnOk X.prog X.w X.K X.mg X.base CX k f fd ps sp)(hr:Room k X.A)(hg:Gl X x)(hm:X.mg x=some (.ref f))(hk:PySem.W.keepIn X.K (.ref f)=true)(hb:Binds X.K fd ps ds)(hd:Vals dvs ds)(hx:Passes CX X E)
  (hdb:(x==("__debug__":Str))=false:=by decide):PE X (.Call (.Name x p) [] [] pos) (tCall sp dvs E tNil):=fun _ s σ H Q I h=>wpAny_Call_Name_kw (ld_glob I hg hm (PySem.W.callWith_K0 I.kIn hk (run_fn (us:=[]) F hr hb hd hx I .nil h)) hdb)
theorem pe_meth{pl:Sem _}(he:PE X o ta)(c:Cls X.K C)(hm:Meth X.K C m f)(F:FnOk X.prog X.w X.K X.mg X.base CX k f fd ps sp)(hr:Room k X.A)(hb:Binds X.K fd ps ds)(hd:Vals dvs ds)(hx:Passes CX X E)(ha:PA X (e::es) t)
  (hst:starEach (e::es) X.env=(false,eval e X.env)::starEach es X.env:=by rfl)(hpl:(backTo pos (starEach es X.env)).any (·.1)=false:=by rfl)
  (ht:eval (.Call (.Attribute o m apos) (e::es) [] pos) X.env=(do
   let ov<-eval o X.env
   standAt apos.atName
   let(f,first)<-holding [ov] (getMethod ov m pl)
   callWith pos f first (backTo pos (starEach (e::es) X.env)) (backToKw pos (keywordEach [] X.env))):=by rfl):
  PE X (.Call (.Attribute o m apos) (e::es) [] pos) (tMeth C m sp dvs E ta t):=by
 refine fun b s σ H Q I h=>PySem.W.methodCall_KW (pl:=pl) (thn (he b s σ H _ I h) fun u z xq1=>?_) ht
 obtain⟨x,v,i,G,a,_,_,y,D,l,q⟩:=xq1
 subst y
 obtain rfl:u=Value.ref a:=G
 exact getmeth_ok i D c hm l (PySem.W.callWith_K (first:=[.ref a]) (h₀:=X.base) I.ok.mod.kin hm.kp (thn (ha pos b z σ v _ i q) fun us _⟨vs,_,p,r,B⟩=>⟨p.kIn,run_fn (us:= .ref a::us) (vs:= .ref a::vs) F hr hb hd hx p (.cons rfl r) B⟩) hst hpl)
theorem pe_meth0{pl:Sem _}(he:PE X o ta)(c:Cls X.K C)(hm:Meth X.K C m f)(F:FnOk X.prog X.w X.K X.mg X.base CX k f fd ps sp)(hr:Room k X.A)(hb:Binds X.K fd ps ds)(hd:Vals dvs ds)(hx:Passes CX X E)
  (ht:eval (.Call (.Attribute o m apos) [] [] pos) X.env=(do
   let ov<-eval o X.env
   standAt apos.atName
   let(f,first)<-holding [ov] (getMethod ov m pl)
   callWith pos f first (backTo pos (starEach [] X.env)) (backToKw pos (keywordEach [] X.env))):=by rfl):
  PE X (.Call (.Attribute o m apos) [] [] pos) (tMeth C m sp dvs E ta tNil):=by
 refine fun e s σ H Q I h=>PySem.W.methodCall_KW (thn (he e s σ H _ I h) fun u _ xq1=>?_) ht
 obtain⟨x,_,g,n,a,_,_,i,j,l,q⟩:=xq1
 subst i
 obtain rfl:u=Value.ref a:=n
 exact getmeth_ok g j c hm l (PySem.W.callWith_K0 (first:=[.ref a]) g.kIn hm.kp (run_fn (us:=[.ref a]) (vs:=[.ref a]) F hr hb hd hx g (.cons rfl .nil) q))
structure Mk(K:PySem.W.Frag)(C f:Addr):Prop where
 makes:PySem.W.makesIn K C=true
 init:PySem.W.findIn K (.ref C) "__init__"=some (some (.ref f))
 fn:PySem.W.isFn K (.ref f)=true
 kp:PySem.W.keepIn K (.ref C)=true
theorem run_make{pins}{σ:St}{H}{s}{Q}{us}{vs}(M:Mk X.K C f)(F:FnOk X.prog X.w X.K X.mg X.base CX k f fd ps sp)(hr:Room (k+1) X.A)(hb:Binds X.K fd ps ds)(hd:Vals dvs ds)
  (hx:Passes CX X E)(I:Inv X pins σ H s)(r:Vals vs us)
  (h:∀x dx,H x=none->H dx=none->dx≠x->sp (.ref x::(vs++dvs)) (upd (upd H dx (.own x)) x (.ins C dx [])) (fun v H2=>v= .non/\Q (.ref x) H2) E):
  wpAny (model X.prog X.w) X.A (call (.ref C) us) (EP X pins σ Q) X.xe s:=by
 have c:=h _ _ (I.hok.fresh (Nat.le_succ _)) (I.hok.fresh (Nat.le_refl _)) (Nat.ne_of_lt (Nat.lt_succ_self _))
 have b:=Inv.made (C:=C) I
 have d:Vals (V.ref (s.heap.objs.size+1)::(vs++dvs)) _:= .cons rfl (r.append hd)
 have g:(Value.ref (s.heap.objs.size+1)::us++ds).length=ps.length:=by
  have e:=d.length
  rw[F.len _ _ _ _ c]at e
  exact e.symm
 refine wpAny_call (make_map I.kIn M.makes M.init (beq_iff_eq.mp M.fn) (codeAny_mono (F.run _ X.stack _ _ ⟨Value.ref (s.heap.objs.size+1)::us,[]⟩ (Value.ref (s.heap.objs.size+1)::(us++ds)) _ _ E (hr.make C us [])
  (b.env0.make C us []) (hb _ (Value.ref (s.heap.objs.size+1)::us) b.kIn g) d c) fun r p a=>?_))
 cases r with
 |error e=>exact hx _ σ _ _ e p b a
 |_ o=>
  cases o with
  |ret u=>
   obtain⟨v,i,m,l,j,n⟩:=b.after a
   subst j
   exact⟨l,⟨V.ref (s.heap.objs.size+1),i,m,rfl,n⟩⟩
  |next=>exact False.elim a
  |brk=>exact False.elim a
  |_=>exact False.elim a
theorem pe_make(M:Mk X.K C f)(F:FnOk X.prog X.w X.K X.mg X.base CX k f fd ps sp)(hr:Room (k+1) X.A)(hg:Gl X x)(hm:X.mg x=some (.ref C))(hb:Binds X.K fd ps ds)(hd:Vals dvs ds)(hx:Passes CX X E)
  (ha:PA X (e::es) t)(hdb:(x==("__debug__":Str))=false:=by decide)(he:starEach (e::es) X.env=(false,eval e X.env)::starEach es X.env:=by rfl)(hpl:(backTo pos (starEach es X.env)).any (·.1)=false:=by rfl):
  PE X (.Call (.Name x p) (e::es) [] pos) (tMake C sp dvs E t):=fun a s σ H Q I h=>wpAny_Call_Name_kw (ld_glob I hg hm (PySem.W.callWith_K I.ok.mod.kin M.kp (thn (ha pos a s σ H _ I h) fun _ _⟨_,_,b,r,q⟩=>⟨b.kIn,run_make M F hr hb hd hx b r q⟩) he hpl) hdb)
end
section
variable{X:Cx}{CX:CXT}{k:Nat}{f C:Addr}{fd:FuncData}{ps ks:List Str}{sp:Sp}{E:XK}{x m:Str}{p pos apos kpos:Pos}{e o:Expr}{es:List Expr}{kws:List Keyword}{te ta:TE}{t tk:TA}{nm:Option Str}
variable{g:List Value->List Value->List Value}{gV:List V->List V->List V}
end
structure FnScope(N P:List Str)(sc:Scope):Prop where
 kind:sc.kind= .function
 co:sc.isCoroutine=false
 gen:sc.isGenerator=false
 nd:N.Nodup
 pre:N.take P.length=P
 par:∀x∈P,sc.names.lookup x=some .local\/sc.names.lookup x=some .cell
 nofree:∀y∈sc.names,y.2≠.free
theorem bindL_out{kindOf}{x}:∀{binds}{m},(∀v,(x,v) ∉ binds)->bindL kindOf binds m x=m x
 |[],_,_=>rfl
 |(n,v)::r,m,h=>by
  unfold bindL
  rw[bindL_out fun w a=>h w (List.mem_cons_of_mem _ a)]
  split
  ·grind
  ·rfl
theorem bindC_out{kindOf}{x}:∀{binds}{m},(∀v,(x,v) ∉ binds)->bindC kindOf binds m x=m x
 |[],_,_=>rfl
 |(n,v)::r,m,h=>by
  unfold bindC
  rw[bindC_out fun w a=>h w (List.mem_cons_of_mem _ a)]
  split
  ·rfl
  ·grind
theorem bindL_get{kindOf}{x}{v}:∀{P:List _}{vs}{i:Nat}{m},P.Nodup->P[i]?=some x->vs[i]?=some v->kindOf x=some .local->
  bindL kindOf (P.zip vs) m x=some v
 |[],_,_,_,_,h,_,_=>by simp at h
 |_::_,[],_,_,_,_,h,_=>by simp at h
 |p::P,w::vs,0,m,d,a,b,c=>by
  simp at a b;subst a;subst b
  show bindL _ ((p,w)::P.zip vs) m p=_
  unfold bindL
  rw[bindL_out fun v e=>(List.nodup_cons.mp d).1 (List.of_mem_zip e).1,if_pos c]
  simp
 |p::P,w::vs,i+1,m,d,a,b,c=>by
  unfold bindL
  exact bindL_get (List.nodup_cons.mp d).2 (by simpa using a) (by simpa using b) c
theorem bindC_get{kindOf}{x}{v}:∀{P:List _}{vs}{i:Nat}{m},P.Nodup->P[i]?=some x->vs[i]?=some v->kindOf x≠some .local->
  bindC kindOf (P.zip vs) m x=some v
 |[],_,_,_,_,h,_,_=>by simp at h
 |_::_,[],_,_,_,_,h,_=>by simp at h
 |p::P,w::vs,0,m,d,a,b,c=>by
  simp at a b;subst a;subst b
  show bindC _ ((p,w)::P.zip vs) m p=_
  unfold bindC
  rw[bindC_out fun v e=>(List.nodup_cons.mp d).1 (List.of_mem_zip e).1,if_neg c]
  simp
 |p::P,w::vs,i+1,m,d,a,b,c=>by
  unfold bindC
  exact bindC_get (List.nodup_cons.mp d).2 (by simpa using a) (by simpa using b) c
def start(N:List Str)(vs:List V):St:=vs.map some++List.replicate (N.length-vs.length) none
def cxOf(CX:CXT)(P:Program)(w:World)(K:PySem.W.Frag)(mg:Str->Option Value)(base:Heap)(N:List Str)(qual:Str)(scope:Scope)(f:Addr)(cd:Value)(A:Around)(outer:List Env)(s:Shared)(H:Hp)(E:XK):Cx where
 prog:=P
 w:=w
 K:=K
 mg:=mg
 base:=base
 A:=A.deeper (envOfC qual scope s.heap.objs.size f cd)
 N:=N
 s₀:=s
 H₀:=H
 env:=envOfC qual scope s.heap.objs.size f cd
 outer:=outer
 stack:=envOfC qual scope s.heap.objs.size f cd::outer
 ex:=[]
 calm:=true
 fn:=fun _=>true
 pn:=[]
 xe:=fun e s'=>wpAny (model P w) (A.deeper (envOfC qual scope s.heap.objs.size f cd)) (leaving (envOfC qual scope s.heap.objs.size f cd) e) (fun _ s''=>CX outer H s E e s'') (fun e' s''=>CX outer H s E e' s'') s'
theorem cell_has{sc:Scope}{n:Nat}{x:Str}(h:sc.names.lookup x=some .cell):∃c,(cellsFrom n sc.names []).lookup x=some c:=Option.isSome_iff_exists.mp (PySem.W.cellsFrom_some sc.names n [] (.inl h))
theorem inv_start{CX}{P}{w}{K}{mg:Str->Option _}{base}{N ps:List _}{qual}{scope}{f}{cd}{A:Around}{outer:List _}{s s1:Shared}{H:Hp}{E:XK}{us:List _}{vs:List V}
  (S:FnScope N ps scope)(hd:A.handled=none)(e0:Env0 P w K mg base A outer s H)(hl:vs.length=ps.length)(r:Vals vs us)
  (x:InCallC s s.heap.objs.size (bindL (envOfC qual scope s.heap.objs.size f cd).kindOf (ps.zip us) fun _=>none) (cellsFrom (s.heap.objs.size+1) scope.names []) (bindC (envOfC qual scope s.heap.objs.size f cd).kindOf (ps.zip us) fun _=>none) s1):
  Inv (cxOf CX P w K mg base N qual scope f cd A outer s H E) [] (start N vs) H s1:=by
 have hpl:ps.length<=N.length:=by have:=congrArg List.length S.pre;rw[List.length_take]at this;omega
 obtain⟨B,tk,rfl,I⟩:=x.done
 have l:∀b:Addr,b ∉ (cxOf CX P w K mg base N qual scope f cd A outer s H E).ex:=fun b z=>absurd (show b∈([]:List Addr)from z) (by simp)
 refine⟨⟨e0.mod,S.kind,rfl,rfl,Nat.le_refl _,fun y z c B g=>?_,fun y o=>?_,fun y c _ h=>?_,fun _=>hd,Around.frames_deeper e0.frames,.inr ⟨rfl,rfl⟩,fun b z=>absurd z (l b),e0.bs,e0.bsz,fun b _ _=>l b,fun b z=>absurd z (l b),e0.funs,e0.frf⟩,
  rfl,e0.bare,Un.kept I,⟨_,x.toInCall.ns,fun i y v B g h3=>?_⟩,fun y c h=>⟨_,x.cell y c h⟩,e0.hok.fresh (Nat.le_refl _),fun y c h=>?_,fun p t=>absurd (show p∈([]:List (Addr×Obj))from t) (by simp),e0.hok.kept I,?_⟩
 ·exact name_of_addr x.apart (PySem.mem_of_lookup B) (PySem.mem_of_lookup g)
 ·rcases o with o|o
  ·exact cell_has o
  ·exact absurd rfl (S.nofree _ (PySem.mem_of_lookup o))
 ·exact Nat.le_of_lt (x.above y c (PySem.mem_of_lookup h))
 ·have C:i<vs.length:=by
   unfold start at g
   by_cases C:i<vs.length
   ·exact C
   ·rw[List.getElem?_append_right (by simpa using C),List.getElem?_replicate]at g
    split at g<;>cases g
  have ha:vs[i]?=some v:=by
   unfold start at g
   rw[List.getElem?_append_left (by simpa using C),List.getElem?_map]at g
   cases e:vs[i]? with
   |none=>grind
   |some a=>simp_all
  obtain⟨u,G,rv⟩:=r.get ha
  have t:ps[i]?=some y:=by
   rw[<-S.pre,List.getElem?_take_of_lt (by omega)];exact B
  have m:ps.Nodup:=by rw[<-S.pre];exact S.nd.sublist (List.take_sublist _ _)
  refine⟨u,rv,?_⟩
  rcases S.par y (List.mem_of_getElem? t)with k|k
  ·exact .inl ⟨k,bindL_get m t G k⟩
  ·obtain⟨c,e⟩:=cell_has (n:=s.heap.objs.size+1) k
   refine .inr ⟨.inl k,c,e,?_⟩
   have q:=x.cell y c e
   rw[bindC_get m t G (by show scope.names.lookup y≠_;rw[k];decide)]at q
   exact q
 ·exact e0.hok.fresh (Nat.le_of_lt (x.above y c (PySem.mem_of_lookup h)))
 ·unfold start
  show _=N.length
  rw[List.length_append,List.length_map,List.length_replicate]
  omega
theorem fn_of{CX}{P}{w}{K:PySem.W.Frag}{mg:Str->Option _}{base}{k}{f}{name qual}{params}{body:List _}{scope}{dV kV doc pm cdv ct oc}{an od:Option _}
  {osl:Array (Option Value)}{N ps:List _}{sp:Sp}(lk:K.lookup f=some ⟨oc,od,.func (PySem.W.fnOf name qual params body scope dV kV doc pm an cdv ct),osl⟩)(hcd:PySem.W.codeIn K cdv qual=true)(S:FnScope N ps scope)
  (len:∀vs H Q E,sp vs H Q E->vs.length=ps.length)
  (hbody:∀(A:Around)(outer:List _)(s:Shared)(H:Hp)(vs:List V)(Q:VK)(E:XK),Room k (A.deeper (envOfC qual scope s.heap.objs.size f cdv))->sp vs H Q E->
   ∃t,PSs (cxOf CX P w K mg base N qual scope f cdv A outer s H E) body t/\t {nx:=fun _ H'=>Q .non H',rt:=Q} (start N vs) H):
  FnOk P w K mg base CX (k+1) f (PySem.W.fnOf name qual params body scope dV kV doc pm an cdv ct) ps sp:=by
 refine⟨len,fun A outer s H _ M vs Q E m g F r d=>?_⟩
 have B:=g.mod.kin.keeps fun b o e=>(g.bs b o e).1
 have a:∀y∈ps.zip M,scope.names.lookup y.1=some _\/(scope.names.lookup y.1=some _/\((cellsFrom (s.heap.objs.size+1) _ []).lookup y.1).isSome=true):=fun⟨n,v⟩ I=>by
  rcases S.par n (List.of_mem_zip I).1 with q|q
  ·exact .inl q
  ·exact .inr ⟨q,PySem.W.cellsFrom_some _ _ _ (.inl q)⟩
 refine codeAny_call_function m.depth (B _ _ lk) rfl S.co S.gen rfl (PySem.W.codeRec_of B hcd) (F _ _ _ _ (wpAny_newFunctionEnv_cells S.kind a fun _ L z x=>?_))
 subst L
 refine⟨(g.mod.nolimit.keeps fun b o e=>(g.bs b o e).1).keeps x.toInCall.keep,codeAny_func ?_⟩
 obtain⟨t,C,D⟩:=hbody A outer s H vs Q E (m.deeper _) d
 refine wpAny_mono (C [] z (start N vs) H _ (show Inv (cxOf CX P w K mg base N qual scope f cdv A outer s H E) [] (start N vs) H z from inv_start S m.hd g (len _ _ _ _ d) r x) D) (fun G p c=>?_) fun e p c=>c
 have h:∀{i:St}{H':Hp}{v:V}{u:Value},Inv (cxOf CX P w K mg base N qual scope f cdv A outer s H E) [] i H' p->RelV v u->Q v H'->CE outer P w H s Q u p:=
  fun{i H' v u} J j q=>⟨v,H',J.os,J.bare,J.base,J.hok,j,q⟩
 cases G with
 |ret u=>
  obtain⟨v,i,H',J,j,q⟩:=c
  exact h J j q
 |next=>
  obtain⟨i,H',J,q⟩:=c
  exact h (v:=V.non) (u:=Value.none) J rfl q
 |brk=>
  obtain⟨_,_,_,q⟩:=c
  exact False.elim q
 |_=>
  obtain⟨_,_,_,q⟩:=c
  exact False.elim q
section
variable{X:Cx}{x:Str}{p pos:Pos}{e:Expr}{es:List Expr}{t:TA}{id T:String}{r:List V->Hp->VK->Prop}
def tCB(r:List V->Hp->VK->Prop)(t:TA):TE:=fun σ H Q=>t σ H fun vs H1=>r vs H1 Q
theorem pe_callB(hc:CallR X (.builtin id) r)(hg:Gl X x)(hm:X.mg x=none)(hv:bootBuiltins x=some (.builtin id))(ha:PA X (e::es) t)(hn:x≠"__name__":=by decide)(hdb:(x==("__debug__":Str))=false:=by decide)
  (he:starEach (e::es) X.env=(false,eval e X.env)::starEach es X.env:=by rfl)(hpl:(backTo pos (starEach es X.env)).any (·.1)=false:=by rfl):PE X (.Call (.Name x p) (e::es) [] pos) (tCB r t):=fun a s σ H Q I h=>wpAny_Call_Name_kw (ld_blt I hg hm hv (PyProof.Rows.callWith_builtin1 (thn (ha pos a s σ H _ I h) fun j b⟨f,g,d,c,i⟩=>hc _ b σ g f j Q d c i) he hpl) hn hdb)
theorem pe_callTy(hc:CallR X (.type T) r)(hg:Gl X x)(hm:X.mg x=none)(hv:bootBuiltins x=some (.type T))(ha:PA X (e::es) t)(hn:x≠"__name__":=by decide)(hdb:(x==("__debug__":Str))=false:=by decide)
  (he:starEach (e::es) X.env=(false,eval e X.env)::starEach es X.env:=by rfl)(hpl:(backTo pos (starEach es X.env)).any (·.1)=false:=by rfl):PE X (.Call (.Name x p) (e::es) [] pos) (tCB r t):=fun a s σ H Q I h=>wpAny_Call_Name_kw (ld_blt I hg hm hv (PyProof.Rows.callWith_type1 (thn (ha pos a s σ H _ I h) fun j b⟨f,g,d,c,i⟩=>hc _ b σ g f j Q d c i) he hpl) hn hdb)
end
end L2
namespace HT
open PySem PyProof.Rows
section
open PySem.SeqAt
open PySem.AutoSeq1 (wpAny_loadPart')
open PySem.MeetsSeq PySem.MeetsSeq2 PySem.MeetsSeq3
end
section
variable{prog:Program}{w:World}{A:Around}{E:Value->Shared->Prop}{s:Shared}
theorem cat_tup{t b}{vs ws}{Q}(ht:IsTup s.heap t vs.toArray)(hb:IsTup s.heap b ws.toArray)(hv:vs≠[])
  (h1:ws=[]->Q (.ref t) s)(h2:ws≠[]->Q (.ref s.heap.objs.size) {s with heap:=s.heap.push {cls:= .type "tuple",data:= .seq (vs++ws).toArray}})
  (hsz:vs.length+ws.length<=sizeLine):wpAny (model prog w) A (binaryOp .Add (.ref t) (.ref b)) Q E s:=by
 obtain⟨⟨cls,j,data,l⟩,f,m,n,o⟩:=id ht
 obtain⟨⟨_,e,data2,d⟩,c,h,k,i⟩:=id hb
 subst m o h i
 by_cases g:ws=[]
 ·exact concat_meets ⟨_,f,rfl⟩ ⟨_,c,rfl⟩ noFill_tuple_add seq_tuple_add PySem.F.slot_tuple_add PySem.F.entry_tuple_add (PySem.F.args_tuple_add_2 _ _)
   (tuple_addW1 t b vs.toArray ws.toArray n k j e l d (by simpa using hv) (by simp[g])) ⟨f,c,h1 g⟩
 ·refine concat_meets ⟨_,f,rfl⟩ ⟨_,c,rfl⟩ noFill_tuple_add seq_tuple_add PySem.F.slot_tuple_add PySem.F.entry_tuple_add (PySem.F.args_tuple_add_2 _ _)
   (tuple_addW2 t b vs.toArray ws.toArray n k j e l d (by simpa using hv) (by simpa using g) (by omega)) ⟨f,c,?_⟩
  simp_all
def sIx(n d:Nat):Option Int->Nat
 |none=>d
 |some v=>if v<0 then(v+n).toNat else min v.toNat n
theorem sIx_none(n d:Nat):sIx n d none=d:=rfl
end
end HT
namespace L2
open PySem PySem.Spec PyProof.Rows
abbrev TO:=St->Hp->(Option Int->Hp->Prop)->Prop
def PO(X:Cx)(e:Option Expr)(t:TO):Prop:=
 ∀(pins)(s)(σ:St)(H)(Q),Inv X pins σ H s->t σ H Q->
  wpAny (model X.prog X.w) X.A (evalPart e X.env) (fun u s'=>∃o H',Inv X pins σ H' s'/\IsPart u o/\Q o H') X.xe s
def tNoPart:TO:=fun _ H Q=>Q none H
def tPart(t:TE):TO:=fun σ H Q=>t σ H fun x H1=>∃i,x= .int i/\Q (some i) H1
section
variable{X:Cx}{e:Expr}{te:TE}{lo hi:Option Expr}{tl th:TO}{pos p2:Pos}
theorem po_none:PO X none tNoPart:=fun _ s σ H Q I h=>wpAny_pure ⟨none,H,I,.none,h⟩
theorem po_some(h:PE X e te):PO X (some e) (tPart te):=by
 refine fun a s σ H Q I c=>thn (h a s σ H _ I c) fun u _ xq1=>?_
 obtain⟨x,g,b,f,d⟩:=xq1
 obtain⟨i,rfl,q⟩:=d
 obtain⟨t,rfl⟩:=f
 exact⟨_,g,b,.int i t,q⟩
def SlR(X:Cx)(r:V->Option Int->Option Int->Hp->VK->Prop):Prop:=
 ∀(pins)(s)(σ:St)(H)(x)(v vl vu)(lo hi)(sl)(Q),Inv X pins σ H s->RelV x v->s.heap.IsSliceOf sl vl vu .none->IsPart vl lo->IsPart vu hi->r x lo hi H Q->
  ∃T id,typeLookup (.type T) "__getitem__"=pure (some (.builtin id))/\s.TypeIs v T/\wpAny (model X.prog X.w) X.A (getItem v (.ref sl)) (EP X pins σ Q) X.xe s
def tSl(r:V->Option Int->Option Int->Hp->VK->Prop)(te:TE)(tl th:TO):TE:=fun σ H Q=>te σ H fun x H1=>tl σ H1 fun l H2=>th σ H2 fun u H3=>r x l u H3 Q
theorem pe_slice{r}(hr:SlR X r)(he:PE X e te)(hl:PO X lo tl)(hu:PO X hi th):PE X (.Subscript e (.Slice lo hi none p2) pos) (tSl r te tl th):=by
 refine fun a s σ H Q I h=>Subscript_ (thn (he a s σ H _ I h) fun v i⟨x,f,j,p,g⟩=>wpAny_Slice (thn (hl a i σ f _ j g) fun y A⟨l,d,D,m,k⟩=>thn (hu a A σ d _ D k) fun o _⟨u,c,t,n,z⟩=>(wpAny_pure ?_)))
 obtain⟨T,id,B,w,C⟩:=hr _ _ σ c x v y o l u _ Q (show Inv X _ σ c _ from t.kept fun b _ q=>Heap.get?_push_of_some _ q) p (Heap.IsSliceOf.new ..) m n z
 exact tail_any w B C (by with_unfolding_all rfl)
def cutV(xs:List V)(lo hi:Option Int):List V:=(xs.drop (HT.sIx xs.length 0 lo)).take (HT.sIx xs.length xs.length hi-HT.sIx xs.length 0 lo)
theorem cutV_length(xs)(lo hi):(cutV xs lo hi).length<=xs.length:=by
 unfold cutV
 (simp;omega)
inductive rCatT(K:PySem.W.Frag)(x:V)(y:V)(H:Hp)(Q:VK):Prop
 |mk (a b xs ys:_) (_:x= .ref a) (_:y= .ref b) (_:SqT K H a xs) (_:SqT K H b ys) (_:xs≠[]) (_:xs.length+ys.length<=sizeLine) (_:(ys=[]->Q (.ref a) H)) (_:(ys≠[]->∀p,H p=none->Q (.ref p) (upd H p (.tup (xs++ys)))))
theorem Vals.nil_iff{xs}{us}(r:Vals xs us):us=[]↔xs=[]:=by
 cases r with
 |nil=>simp
 |_ _ _=>simp
theorem op_catT:OpR X (binaryOp .Add) (rCatT X.K):=by
 intro _ s σ H x y v u Q I o f h
 obtain⟨a,b,_,_,rfl,rfl,g,m,i,l,j,n⟩:=h
 cases o
 cases f
 obtain⟨_,d,p,_⟩:=I.tuple g
 obtain⟨_,c,k,_⟩:=I.tuple m
 refine HT.cat_tup p k (fun z=>i (d.nil_iff.mp z)) (fun z=>⟨.ref a,H,I,rfl,j (c.nil_iff.mp z)⟩) (fun z=>⟨.ref s.heap.objs.size,_,I.laid (fun b _ q=>Heap.get?_push_of_some _ q) (Nat.le_refl _) ?_,rfl,n (fun w=>z (c.nil_iff.mpr w)) _ (I.hok.fresh (Nat.le_refl _))⟩) (by rw[<-d.length,<-c.length];exact l)
 exact⟨by simp_all,_,d.append c,IsTup.new _ _⟩
end
def ixN(n:Nat)(i:Int):Option Nat:=if 0<=i then(if i<n then some i.toNat else none)else if-n<=i then some (i+n).toNat else none
def atI{α:Type}(xs:List α)(i:Int):Option α:=(ixN xs.length i).bind fun j=>xs[j]?
theorem ixN_seq{n}{i}{j}(h:ixN n i=some j):seqIndex? i n=some j/\j<n/\ -n<=i/\i<n:=by
 unfold ixN at h
 by_cases b:0<=i
 ·rw[if_pos b]at h
  by_cases a:i<n
  ·rw[if_pos a]at h
   have e:=Option.some.inj h
   exact⟨by rw[seqIndex_of b a,e],by omega,by omega,a⟩
  ·simp_all
 ·rw[if_neg b]at h
  by_cases a: -n<=i
  ·rw[if_pos a]at h
   have e:=Option.some.inj h
   exact⟨by rw[seqIndex_neg (by omega) a,e],by omega,a,by omega⟩
  ·simp_all
theorem atI_get{α}{xs}{i}{v:α}(h:atI xs i=some v):∃j,seqIndex? i xs.length=some j/\xs[j]?=some v/\j<xs.length/\ -(xs.length:Int)<=i/\i<xs.length:=by
 unfold atI at h
 cases e:ixN xs.length i with
 |none=>simp_all
 |some j=>
  rw[e]at h
  obtain⟨_,_,_,_⟩:=ixN_seq e
  simp_all
theorem atI_nat{α}{xs}{j:Nat}{v:α}(h:xs[j]?=some v):atI xs j=some v:=by
 have _:=(List.getElem?_eq_some_iff.mp h).1
 have e:ixN xs.length j=some j:=by
  unfold ixN
  simp_all
 unfold atI;rw[e];exact h
theorem atI_last{α}(xs)(v:α):atI (xs++[v]) (-1)=some v:=by
 have e:ixN (xs++[v]).length (-1)=some xs.length:=by
  unfold ixN
  (simp;omega)
 unfold atI
 rw[e]
 simp
def PlainIx(b:Expr):Prop:=∀o i,subscripted b false o i=operate [o,i] (getItem o i)
def IxR(X:Cx)(r:R2):Prop:=
 ∀(value slice)(pins)(s)(σ:St)(H)(x y)(v u)(Q),Inv X pins σ H s->RelV x v->RelV y u->r x y H Q->
  subscripted slice false v u=operate [v,u] (getItem v u)->wpAny (model X.prog X.w) X.A (subscriptTail value slice v u) (EP X pins σ Q) X.xe s
def MtR(X:Cx)(id:String)(r:V->List V->Hp->VK->Prop):Prop:=
 ∀(pins)(s)(σ:St)(H)(x)(xs)(v)(us)(Q),Inv X pins σ H s->RelV x v->Vals xs us->r x xs H Q->
  wpAny (model X.prog X.w) X.A (call (.builtin id) (v::us)) (EP X pins σ Q) X.xe s
section
variable{X:Cx}{a b:Expr}{ta tb:TE}{pos:Pos}
theorem pe_ix{r}(hr:IxR X r)(ha:PE X a ta)(hb:PE X b tb)(hs:PlainIx b):PE X (.Subscript a b pos) (tOp r ta tb):=fun _ s σ H Q I h=>Subscript_ (binT ha hb I h fun v u d x y g e f c q=>hr a b _ d σ g x y v u Q e f c q (hs _ _))
inductive rIxL(K:PySem.W.Frag)(x:V)(y:V)(H:Hp)(Q:VK):Prop
 |mk (p xs i v:_) (_:x= .ref p) (_:y= .int i) (_:SqL K H p xs) (_:atI xs i=some v) (_:Q v H)
inductive rIxT(K:PySem.W.Frag)(x:V)(y:V)(H:Hp)(Q:VK):Prop
 |mk (p xs i v:_) (_:x= .ref p) (_:y= .int i) (_:SqT K H p xs) (_:atI xs i=some v) (_:Q v H)
inductive rIxS(x:V)(y:V)(H:Hp)(Q:VK):Prop
 |mk (z i c:_) (_:x= .str z) (_:y= .int i) (_:z.length<=sizeLine) (_:atI z.cps.toList i=some c) (_:Q (.str ⟨#[c]⟩) H)
theorem ix_list:IxR X (rIxL X.K):=by
 intro _ _ _ s σ H x y v u Q I l m h g
 obtain⟨p,_,i,z,rfl,rfl,C,A,q⟩:=h
 cases l
 obtain⟨t,rfl⟩:=m
 obtain⟨c,r,b,_⟩:=I.list C
 obtain⟨j,f,k,_,o,B⟩:=atI_get A
 obtain⟨w,_,d⟩:=r.get k
 have _:=r.length
 have _:=line63
 have a:EP X _ σ Q w s:=⟨z,H,I,d,q⟩
 by_cases e:0<=i
 ·have n:i.toNat=j:=by
   rw[seqIndex_of e B]at f
   grind
  exact item_listR b.isList e (by omega) (by simp_all) a g
 ·have n:(i+c.toArray.size).toNat=j:=by
   rw[seqIndex_neg (by omega) o]at f
   simp_all
  exact subscriptTail_builtinR b.isList.typeIs slot_list_getitem.lookup
   (wpAny_getItem_list_neg b.isList (by omega) (by grind) (by omega) (by simp_all) ⟨rfl,a⟩) g
theorem ix_tup:IxR X (rIxT X.K):=by
 intro _ _ a s σ H x y v u Q I k d h l
 obtain⟨p,_,i,z,rfl,rfl,g,e,q⟩:=h
 cases k
 obtain⟨t,rfl⟩:=d
 obtain⟨_,r,c,_⟩:=I.tuple g
 obtain⟨j,_,m,_,_,_⟩:=atI_get e
 obtain⟨w,f,b⟩:=r.get m
 have _:=r.length
 have _:=line63
 exact subscriptTail_builtinR c.typeIs slot_tuple_getitem.lookup
  (getItem_tuple (j:=j) c (by omega) (by omega) (by simp_all) (by simpa using f) ⟨rfl,(show EP X a σ Q w s from⟨z,H,I,b,q⟩)⟩) l
theorem ix_str:IxR X rIxS:=by
 intro _ _ _ s σ H x y v u Q I g a h f
 obtain⟨z,i,c,rfl,rfl,_,b,q⟩:=h
 obtain⟨t,rfl⟩:=g
 obtain⟨_,rfl⟩:=a
 obtain⟨j,e,_,_,d,k⟩:=atI_get b
 rw[(show z.cps.toList.length=z.length by simp[Str.length])]at e d k
 have _:=line63
 exact tail_any (typeIs_str s z t) slot_str_getitem.lookup (getItem_str (by
  grind) (by simp_all) ⟨.str ⟨#[c]⟩,H,I.tok _,⟨_,rfl⟩,q⟩) f
theorem mapSeq_set(its:List _)(n j)(u):Obj.mapSeq (·.setIfInBounds j u) {cls:= .type "list",data:= .seq its.toArray n}={cls:= .type "list",data:= .seq (its.set j u).toArray n}:=by
 simp[Obj.mapSeq]
theorem Inv.lst{pins}{σ:St}{H}{s}{p}{xs}(I:Inv X pins σ H s)(h:H p=some (.lst xs)):
  ∃(its:List _)(n:Nat),Vals xs its/\s.heap.get? p=some {cls:= .type "list",data:= .seq its.toArray n}/\xs.length<=sizeLine:=by
 obtain⟨z,its,n,r,e⟩:=I.hok p _ h
 simp_all
theorem Inv.lstUpd{pins}{σ:St}{H}{s}{p:Addr}{xs ys:List V}{its its':List _}{n n':Nat}{f:Obj->Obj}(I:Inv X pins σ H s)(h:H p=some (.lst xs))
  (ho:s.heap.get? p=some {cls:= .type "list",data:= .seq its.toArray n})(hf:f {cls:= .type "list",data:= .seq its.toArray n}={cls:= .type "list",data:= .seq its'.toArray n'})(r:Vals ys its')(hz:ys.length<=sizeLine)(t:Nat):
  Inv X pins σ (upd H p (.lst ys)) {s with heap:=s.heap.update p f,toks:=t}:=by
 have e:(s.heap.update p f).get? p=some {cls:= .type "list",data:= .seq its'.toArray n'}:=by
  rw[Heap.get?_update_self f ho (by rw[hf]<;>rfl),hf]
 refine I.write (by rw[h];trivial) (.inl rfl) (fun b u a q=>(Heap.get?_update_other _ _ (Ne.symm a)).trans q) ⟨_,e⟩ ?_
 exact⟨hz,_,n',r,e⟩
def rSetL:V->V->V->Hp->(Hp->Prop)->Prop:=fun o i v H Q=>∃p xs k j,o= .ref p/\i= .int k/\H p=some (.lst xs)/\ixN xs.length k=some j/\Q (upd H p (.lst (xs.set j v)))
theorem set_list:PSet X rSetL:=by
 intro _ s σ H o i v _ _ u Q I y x z h
 obtain⟨p,_,k,j,rfl,rfl,e,m,q⟩:=h
 cases y
 obtain⟨t,rfl⟩:=x
 obtain⟨b,n,r,c,_⟩:=I.lst e
 obtain⟨g,_,A,w⟩:=ixN_seq m
 have _:=r.length
 have _:=line63
 have l:=
  I.lstUpd e c (mapSeq_set b n j u) (r.set z j) (by simp_all) s.toks
 by_cases f:0<=k
 ·have d:k.toNat=j:=by
   rw[seqIndex_of f w]at g
   simp_all
  exact PySem.W.ki_setAt c f (by omega) (by grind) (by rw[d];exact⟨_,l,q⟩)
 ·have d:(k+b.toArray.size).toNat=j:=by
   rw[seqIndex_neg (by omega) A]at g
   grind
  exact PySem.W.ki_setBack c (by omega) (by simp_all) (by omega) (by rw[d];exact⟨_,l,q⟩)
theorem slice_bounds(lo hi)(n):(sliceBounds lo hi none n).1=((HT.sIx n 0 lo:Nat))/\(sliceBounds lo hi none n).2.1=((HT.sIx n n hi:Nat))/\(sliceBounds lo hi none n).2.2=1:=by
 refine⟨?_,?_,rfl⟩
 ·cases lo with
  |none=>simp[sliceBounds,HT.sIx]
  |some i=>
   simp[sliceBounds,HT.sIx,Option.getD_none,show 1>0 by decide,if_true]
   grind
 ·cases hi with
  |none=>simp[sliceBounds,HT.sIx]
  |some i=>
   simp[sliceBounds,HT.sIx,Option.getD_none,show 1>0 by decide,if_true]
   grind
theorem slicePick_cut(its:List _)(lo hi:Option _):slicePick its.toArray lo hi none=((its.drop (HT.sIx its.length 0 lo)).take (HT.sIx its.length its.length hi-HT.sIx its.length 0 lo)).toArray:=by
 obtain⟨a,c,b⟩:=slice_bounds lo hi _
 unfold slicePick
 rw[a,c,b]
 simp only[sliceRange_one,pick_run,List.size_toArray]<;>rfl
inductive rSlL(K:PySem.W.Frag)(x:V)(lo:Option Int)(hi:Option Int)(H:Hp)(Q:VK):Prop
 |mk (a xs:_) (_:x= .ref a) (_:SqL K H a xs) (_:∀p,H p=none->Q (.ref p) (upd H p (.lst (cutV xs lo hi))))
theorem sl_list:SlR X (rSlL X.K):=by
 intro _ s σ H x v _ _ lo e _ Q I m l j i h
 obtain⟨a,d,rfl,k,q⟩:=h
 cases m
 obtain⟨_,r,f,n⟩:=I.list k
 have c:=r.length
 refine⟨_,_,slot_list_getitem.lookup,f.isList.typeIs,wpAny_getItem_list_slice f.isList l j i .none (by simp) ?_ (by simp_all)⟩
 rw[slicePick_cut,<-c]
 refine⟨.ref s.heap.objs.size,_,I.laid (fun b _ q=>Heap.get?_push_of_some _ q) (Nat.le_refl _) ?_,rfl,q _ (I.hok.fresh (Nat.le_refl _))⟩
 exact⟨Nat.le_trans (cutV_length d lo e) n,_,0,(r.drop (HT.sIx d.length 0 lo)).take (HT.sIx d.length d.length e-HT.sIx d.length 0 lo),Heap.get?_push_size _ rfl⟩
def flatV:V->Bool
 | .non=>true
 | .bl _=>true
 | .int _=>true
 | .str _=>true
 |_=>false
def eqV:V->V->Bool
 | .non,.non=>true
 | .bl a,.bl b=>a==b
 | .bl a,.int b=>(if a then 1 else 0)==b
 | .int a,.bl b=>a==(if b then 1 else 0)
 | .int a,.int b=>a==b
 | .str a,.str b=>a==b
 |_,_=>false
theorem eqAt_V{A}{s}{y x}{u v}(ry:RelV y u)(rx:RelV x v)(fy:flatV y=true)(fx:flatV x=true):SeqAt.EqAt A s u v (eqV y x):=by
 cases y with
 |non=>
  cases ry
  cases x with
  |non=>cases rx;exact SeqAt.EqAt.same _
  |bl b=>cases rx;exact SeqAt.EqAt.none_bool b
  |int b=>obtain⟨t,rfl⟩:=rx;exact SeqAt.EqAt.none_int b t
  |str b=>obtain⟨t,rfl⟩:=rx;exact SeqAt.EqAt.none_str b t
  |_=>exact absurd fx Bool.false_ne_true
 |bl a=>
  cases ry
  cases x with
  |non=>cases rx;exact SeqAt.EqAt.bool_none a
  |bl b=>cases rx;exact SeqAt.EqAt.bool_bool a b
  |int b=>obtain⟨t,rfl⟩:=rx;exact SeqAt.EqAt.bool_int a b t
  |str b=>obtain⟨t,rfl⟩:=rx;exact SeqAt.EqAt.bool_str a b t
  |_=>exact absurd fx Bool.false_ne_true
 |int a=>
  obtain⟨d,rfl⟩:=ry
  cases x with
  |non=>cases rx;exact SeqAt.EqAt.int_none a d
  |bl b=>cases rx;exact SeqAt.EqAt.int_bool a d b
  |int b=>obtain⟨t,rfl⟩:=rx;exact SeqAt.EqAt.int_int a d b t
  |str b=>obtain⟨t,rfl⟩:=rx;exact SeqAt.EqAt.int_str a d b t
  |_=>exact absurd fx Bool.false_ne_true
 |str a=>
  obtain⟨d,rfl⟩:=ry
  cases x with
  |non=>cases rx;exact SeqAt.EqAt.str_none a d
  |bl b=>cases rx;exact SeqAt.EqAt.str_bool a d b
  |int b=>obtain⟨t,rfl⟩:=rx;exact SeqAt.EqAt.str_int a d b t
  |str b=>obtain⟨t,rfl⟩:=rx;exact SeqAt.EqAt.str_str a d b t
  |_=>exact absurd fx Bool.false_ne_true
 |_=>exact absurd fy Bool.false_ne_true
def eqU(x:V)(u:Value):Bool:=match u with
 | .none=>eqV .non x
 | .bool b=>eqV (.bl b) x
 | .int i _=>eqV (.int i) x
 | .str z _=>eqV (.str z) x
 |_=>false
theorem eqU_of{x y}{u}(r:RelV y u)(f:flatV y=true):eqU x u=eqV y x:=by
 cases y with
 |non=>cases r;rfl
 |bl b=>cases r;rfl
 |int i=>obtain⟨t,rfl⟩:=r;rfl
 |str z=>obtain⟨t,rfl⟩:=r;rfl
 |_=>exact absurd f Bool.false_ne_true
theorem any_eqU{x}:∀{xs}{us},Vals xs us->xs.all flatV=true->us.any (eqU x)=xs.any fun y=>eqV y x
 |_,_,.nil,_=>rfl
 |y::xs,u::us,.cons r t,f=>by
  rw[List.all_cons,Bool.and_eq_true]at f
  rw[List.any_cons,List.any_cons,eqU_of r f.1,any_eqU t f.2]
theorem mem_eqAt{A}{s}{x}{v}(rx:RelV x v)(fx:flatV x=true):∀{xs}{us},Vals xs us->xs.all flatV=true->∀u∈us,SeqAt.EqAt A s u v (eqU x u)
 |_,_,.nil,_=>fun u a=>by cases a
 |y::xs,u::us,.cons r t,f=>fun b a=>by
  rw[List.all_cons,Bool.and_eq_true]at f
  rcases List.mem_cons.mp a with rfl|a
  ·rw[eqU_of r f.1];exact eqAt_V r rx f.1 fx
  ·exact mem_eqAt rx fx t f.2 b a
def inV(x:V)(xs:List V):Bool:=xs.any fun y=>eqV y x
inductive rIn(K:PySem.W.Frag)(neg:Bool)(x:V)(y:V)(H:Hp)(Q:VK):Prop
 |mk (p xs:_) (_:y= .ref p) (_:(SqL K H p xs\/SqT K H p xs)) (_:flatV x=true) (_:xs.all flatV=true) (_:Q (.bl (if neg then !inV x xs else inV x xs)) H)
theorem op_in_seq:OpR X (compareOp .In) (rIn X.K false):=by
 intro _ s σ H x y v u Q I g j h
 obtain⟨p,_,rfl,c,i,d,q⟩:=h
 cases j
 rcases c with c|c
 ·obtain⟨a,r,f,l⟩:=I.list c
  refine SeqAt.in_listAt _ f.isList (fun w e=>mem_eqAt g i r d w (by simpa using e)) ⟨.bl _,H,I,rfl,?_⟩
  rw[show a.toArray.any _=a.any (eqU x) by simp,any_eqU r d]
  exact q
 ·obtain⟨a,r,f,l⟩:=I.tuple c
  refine SeqAt.in_tupleAt _ f (fun w e=>mem_eqAt g i r d w (by simpa using e)) ⟨.bl _,H,I,rfl,?_⟩
  rw[show a.toArray.any _=a.any (eqU x) by simp,any_eqU r d]
  exact q
theorem call_len_seq:CallR X (.builtin "len") (fun xs H Q=>∃p ys,xs=[.ref p]/\(SqL X.K H p ys\/SqT X.K H p ys)/\Q (.int ys.length) H):=by
 intro _ s σ H xs _ Q I r h
 obtain⟨p,ys,rfl,b,q⟩:=h
 obtain⟨u,rfl,g⟩:=vals1 r
 cases g
 have _:=line63
 rcases b with b|b
 ·obtain⟨d,c,e,f⟩:=I.list b
  have a:=c.length
  exact Calls.call_len_list e.isList (by simp[List.size_toArray]<;>omega) ⟨.int ys.length,H,I.tok _,⟨s.toks+1,by grind⟩,q⟩
 ·obtain⟨d,c,e,f⟩:=I.tuple b
  have a:=c.length
  exact len_tuple e (by simp[List.size_toArray]<;>omega) ⟨.int ys.length,H,I.tok _,⟨s.toks+1,by grind⟩,q⟩
theorem call_len_str:CallR X (.builtin "len") (fun xs H Q=>∃z,xs=[.str z]/\z.length<=sizeLine/\Q (.int z.length) H):=by
 intro _ s σ H xs _ Q I r h
 obtain⟨z,rfl,_,q⟩:=h
 obtain⟨u,rfl,t,rfl⟩:=vals1 r
 have _:=line63
 exact len_str (by omega) ⟨.int z.length,H,I.tok _,⟨_,rfl⟩,q⟩
theorem call_list_of:CallR X (.type "list") (fun xs H Q=>∃p ys,xs=[.ref p]/\(SqL X.K H p ys\/SqT X.K H p ys)/\∀l,H l=none->Q (.ref l) (upd H l (.lst ys))):=by
 intro _ s σ H xs _ Q I r h
 obtain⟨p,ys,rfl,j,q⟩:=h
 obtain⟨u,rfl,B⟩:=vals1 r
 cases B
 have t:∀(a),Vals ys _->ys.length<=sizeLine->∀(c)(g),(∀b A,s.heap.get? b=some A->c.get? b=some A)->
   c.get? s.heap.objs.size=some _->EP X _ σ Q _ {s with heap:=c}:=fun a f k c g m e=>
  ⟨.ref s.heap.objs.size,_,I.laid (t':=s.toks) m (Nat.le_refl _) (show ObjOk X.prog X.w _ c _ (.lst ys)from⟨k,a,g,f,e⟩),rfl,q _ (I.hok.fresh (Nat.le_refl _))⟩
 rcases j with j|j
 ·obtain⟨a,f,v,k⟩:=I.list j
  have i:=f.length
  obtain⟨o,y,x,n,z⟩:=v.isList
  exact call_list_seq p (.inl rfl) y x z (fun c g m e=>t a f k c g m e) (by grind)
 ·obtain⟨a,f,v,k⟩:=I.tuple j
  have i:=f.length
  obtain⟨o,y,x,n,z⟩:=v
  exact call_list_seq p (.inr rfl) y x z (fun c g m e=>t a f k c g m e) (by grind)
theorem call_tuple_of:CallR X (.type "tuple") (fun xs H Q=>∃p ys,xs=[.ref p]/\((SqL X.K H p ys/\∀l,H l=none->Q (.ref l) (upd H l (.tup ys)))\/(SqT X.K H p ys/\Q (.ref p) H))):=by
 intro _ s σ H xs _ Q I r h
 obtain⟨p,ys,rfl,h⟩:=h
 obtain⟨u,rfl,m⟩:=vals1 r
 cases m
 rcases h with⟨d,q⟩|⟨d,q⟩
 ·obtain⟨a,c,f,j⟩:=I.list d
  have _:=c.length
  refine call_tuple_list f.isList (fun i k=>?_) (by grind)
  have g:=I.kept (t':=s.toks) k
  exact⟨.ref i.objs.size,_,(show Inv X _ σ (upd H i.objs.size (.tup ys)) _ from g.laid (fun b o e=>Heap.get?_push_of_some _ e) (Nat.le_refl _) ⟨j,a,c,IsTup.new _ _⟩),rfl,q _ (g.hok.fresh (Nat.le_refl _))⟩
 ·obtain⟨a,c,f,j⟩:=I.tuple d
  exact call_tuple_same f ⟨.ref p,H,I,rfl,q⟩
def tyV(K:PySem.W.Frag)(T:String)(x:V)(H:Hp):Prop:=match x with
 | .str _=>T="str"
 | .int _=>T="int"
 | .ref p=>(T="list"/\∃xs,SqL K H p xs)\/(T="tuple"/\∃o,K.lookup p=some o/\o.cls= .type "tuple"/\o.dict=none)\/
   (T="dict"/\((∃kvs,H p=some (.dK kvs))\/∃kvs,H p=some (.dT kvs)))\/(T="set"/\∃S n,H p=some (.set S n))
 |_=>False
theorem tyV_is{pins}{σ:St}{H}{s}{T}{x}{v}(I:Inv X pins σ H s)(r:RelV x v)(ty:tyV X.K T x H):
  s.TypeIs v T/\∀a,v= .ref a->∃ob,s.heap.get? a=some ob/\ob.dict=none:=by
 cases x with
 |str z=>
  obtain⟨t,rfl⟩:=r
  cases ty
  exact⟨typeIs_str s z t,fun _ e=>nomatch e⟩
 |int i=>
  obtain⟨t,rfl⟩:=r
  cases ty
  exact⟨typeIs_int s i t,fun _ e=>nomatch e⟩
 |ref p=>
  cases r
  rcases ty with⟨rfl,_,l⟩|⟨rfl,o,b,k,g⟩|⟨rfl,b⟩|⟨rfl,S,n,b⟩
  ·obtain⟨_,_,j,_⟩:=I.list l
   refine⟨j.isList.typeIs,fun a e=>?_⟩
   cases e
   obtain⟨o,n,e,c,g,_⟩:=j
   exact⟨o,e,g⟩
  ·refine⟨⟨o,I.kIn p o b,k⟩,fun a e=>?_⟩
   cases e
   exact⟨o,I.kIn _ o b,g⟩
  ·have z:∃o,s.heap.get? p=some o/\o.ExactDict:=by
    rcases b with⟨f,b⟩|⟨f,b⟩
    ·obtain⟨_,_,_,_,o,_,_,e,d,_⟩:=I.hok p _ b
     exact⟨o,e,d⟩
    ·obtain⟨_,_,_,_,o,_,_,e,d,_⟩:=I.hok p _ b
     exact⟨o,e,d⟩
   obtain⟨o,e,d⟩:=z
   refine⟨⟨o,e,d.1⟩,fun a h=>?_⟩
   cases h
   exact⟨o,e,d.2.1⟩
  ·obtain⟨o,_,_,_,e,d,_⟩:=I.hok p _ b
   refine⟨⟨o,e,d.1⟩,fun a h=>?_⟩
   cases h
   exact⟨o,e,d.2.1⟩
 |_=>exact False.elim ty
def tBM0(K:PySem.W.Frag)(T:String)(r:V->List V->Hp->VK->Prop)(to:TE):TE:=fun σ H Q=>to σ H fun x H1=>tyV K T x H1/\r x [] H1 Q
def tBM(K:PySem.W.Frag)(T:String)(r:V->List V->Hp->VK->Prop)(to:TE)(t:TA):TE:=fun σ H Q=>to σ H fun x H1=>tyV K T x H1/\t σ H1 fun xs H2=>r x xs H2 Q
variable{o e:Expr}{es:List Expr}{to:TE}{t:TA}{name:Str}{apos cpos:Pos}{T id:String}{r:V->List V->Hp->VK->Prop}
theorem pe_bm0(pa:PlainAttrs T)(slot:Slot T name id)(hty:typeOf (.builtin id)=pure (.type "method_descriptor"))(hm:MtR X id r)(ho:PE X o to)
  (hbase:attributeBase o name X.env (eval o X.env)=eval o X.env:=by rfl)(hline:(apos.endLine==cpos.line)=true:=by rfl):PE X (.Call (.Attribute o name apos) [] [] cpos) (tBM0 X.K T r to):=by
 refine fun a s σ H Q I h=>wpAny_Call_method0_late hbase hline (thn (ho a s σ H _ I h) fun v d xq1=>?_)
 obtain⟨x,g,b,c,f,i⟩:=xq1
 obtain⟨e,j⟩:=tyV_is b c f
 exact⟨T,id,pa,slot,hty,e,j,Calls.callWith_builtin rfl (PySem.evalArgs_none (hm a d σ g x [] v [] Q b c .nil i))⟩
theorem pe_bm(pa:PlainAttrs T)(slot:Slot T name id)(hty:typeOf (.builtin id)=pure (.type "method_descriptor"))(hm:MtR X id r)(ho:PE X o to)(ha:PA X (e::es) t)
  (hbase:attributeBase o name X.env (eval o X.env)=eval o X.env:=by rfl)
  (hfew:((backTo cpos (starEach (e::es) X.env)).all (fun x=> !x.1)&&(backToKw cpos (keywordEach [] X.env)).all (fun x=>x.1.isSome)
   &&decide ((e::es).length+([]:List Keyword).length+(if([]:List Keyword).isEmpty then 0 else 1)<30))=true:=by rfl)
  (hline:(apos.endLine==cpos.line)=true:=by rfl) (hs:starEach (e::es) X.env=(false,eval e X.env)::starEach es X.env:=by rfl) (hplain:(backTo cpos (starEach es X.env)).any (·.1)=false:=by rfl):
  PE X (.Call (.Attribute o name apos) (e::es) [] cpos) (tBM X.K T r to t):=by
 refine fun b s σ H Q I h=>wpAny_Call_method_late hbase hfew hline rfl (thn (ho b s σ H _ I h) fun v l xq1=>?_)
 obtain⟨x,p,c,d,w,q⟩:=xq1
 obtain⟨j,z⟩:=tyV_is c d w
 refine⟨T,id,pa,slot,hty,j,z,?_⟩
 have f:=ha cpos _ l σ p _ c q
 rw[hs]at f⊢
 exact Calls.callWith_builtin (by show(false||(backTo _ _).any _)=false;rw[hplain]<;>rfl) (Calls.evalArgs_plain (thn f fun u k⟨m,y,n,i,g⟩=>hm _ k σ y x m v u Q n d i g))
end
def MtM(X:Cx)(id:String)(r:V->List V->Hp->VK->Prop):Prop:=
 ∀(pins)(s)(σ:St)(H)(x)(xs)(v)(us)(Q),Inv X pins σ H s->RelV x v->Vals xs us->r x xs H Q->
  wpAny (model X.prog X.w) X.A (call (.builtin id) (v::us)) (EP X pins σ Q) X.xe s
theorem Vals.one:∀{x}{us},Vals [x] us->∃u,us=[u]/\RelV x u
 |_,_,.cons r .nil=>⟨_,rfl,r⟩
theorem Vals.two:∀{x y}{us},Vals [x,y] us->∃u v,us=[u,v]/\RelV x u/\RelV y v
 |_,_,_,.cons r (.cons q .nil)=>⟨_,_,rfl,r,q⟩
theorem Vals.zero:∀{us},Vals [] us->us=[]
 |_,.nil=>rfl
theorem Vals.reverse{xs}{us}(h:Vals xs us):Vals xs.reverse us.reverse:=by
 induction h with
 |nil=>exact .nil
 |cons r t c=>rw[List.reverse_cons,List.reverse_cons];exact Vals.append c (.cons r .nil)
theorem Vals.rep{xs}{us}(h:Vals xs us):∀k:Nat,Vals (List.replicate k xs).flatten (List.replicate k us).flatten
 |0=> .nil
 |k+1=>Vals.append h (Vals.rep h k)
theorem foldl_rep(its):∀(k)(acc:List Value),
  List.foldl (fun x1 x2=>x1++x2) acc.toArray (List.replicate k its.toArray)=(acc++(List.replicate k its).flatten).toArray
 |0,acc=>by simp
 |k+1,acc=>by
  have a:(acc++its)++(List.replicate k its).flatten=acc++(List.replicate (k+1) its).flatten:=by
   grind
  rw[<-a,<-foldl_rep its k (acc++its),<-(show acc.toArray++its.toArray=(acc++its).toArray by simp),List.replicate_succ,List.foldl_cons]
section
variable{X:Cx}{pins:List (Addr×Obj)}{σ:St}{H:Hp}{s:Shared}{l b:Addr}{xs ys zs:List V}
theorem Inv.lset{its its':List _}{n:Nat}{f:Array _->Array _}{t':Nat}(I:Inv X pins σ H s)(hH:H l=some (.lst xs))
  (e:s.heap.get? l=some {cls:= .type "list",data:= .seq its.toArray n})(hf:f its.toArray=its'.toArray)(hv:Vals ys its')(hz:ys.length<=sizeLine):
  Inv X pins σ (upd H l (.lst ys)) {s with heap:=s.heap.update l (Obj.mapSeq f),toks:=t'}:=by
 have q:=PySem.IsL.update e f
 rw[hf]at q
 refine I.write (by rw[hH];exact trivial) (.inl rfl) (fun _ u a b=>(Heap.get?_update_other _ _ (Ne.symm a)).trans b) ⟨_,q⟩ ?_
 exact⟨hz,_,_,hv,q⟩
theorem Inv.lnew{its}{t'}(I:Inv X pins σ H s)(hv:Vals ys its)(hz:ys.length<=sizeLine):
  Inv X pins σ (upd H s.heap.objs.size (.lst ys)) {s with heap:=s.heap.push {cls:= .type "list",data:= .seq its.toArray},toks:=t'}:=
 I.laid (fun _ _ q=>Heap.get?_push_of_some _ q) (Nat.le_refl _) ⟨hz,_,0,hv,Heap.get?_push_size _ rfl⟩
theorem Inv.fresh(I:Inv X pins σ H s):H s.heap.objs.size=none:=I.hok.fresh (Nat.le_refl _)
theorem Inv.lstM(I:Inv X pins σ H s)(hH:H l=some (.lst xs)):xs.length<=sizeLine/\∃its n,Vals xs its/\xs.length=its.length/\s.heap.get? l=some {cls:= .type "list",data:= .seq its.toArray n}:=by
 obtain⟨z,its,n,r,e⟩:=I.hok l _ hH
 exact⟨z,its,n,r,r.length,e⟩
theorem notLongL{n}(h:n<=sizeLine):Builtin.List.listTooLong n=false:=decide_eq_false (by omega)
end
section
variable{X:Cx}
inductive rAppend(x:V)(vs:List V)(H:Hp)(Q:VK):Prop
 |mk (l xs y:_) (_:x= .ref l) (_:vs=[y]) (_:H l=some (.lst xs)) (_:xs.length<sizeLine) (_:Q .non (upd H l (.lst (xs++[y]))))
theorem mt_append:MtM X "list.append" rAppend:=by
 intro _ s σ H x _ v _ Q I d b h
 obtain⟨l,_,y,rfl,rfl,a,_,q⟩:=h
 cases d
 obtain⟨u,rfl,c⟩:=b.one
 obtain⟨z,_,n,r,_,e⟩:=I.lstM a
 refine call_meets F.slot_list_append ⟨_,e,rfl⟩ F.entry_list_append (F.args_list_append_2 _ _) (PySem.list_append l _ n u (by simp_all)) ⟨e,.non,_,I.lset a e (by simp) (r.append (.cons c .nil)) ?_,rfl,q⟩
 grind
inductive rExtend(x:V)(vs:List V)(H:Hp)(Q:VK):Prop
 |mk (l b xs zs:_) (_:x= .ref l) (_:vs=[.ref b]) (_:H l=some (.lst xs)) (_:H b=some (.lst zs)) (_:xs.length+zs.length<=sizeLine) (_:Q .non (upd H l (.lst (xs++zs))))
theorem mt_extend:MtM X "list.extend" rExtend:=by
 intro _ s σ H x _ v _ Q I p i h
 obtain⟨l,b,_,_,rfl,rfl,g,m,_,q⟩:=h
 cases p
 obtain⟨u,rfl,k⟩:=i.one
 cases k
 obtain⟨z,d,n,r,_,e⟩:=I.lstM g
 obtain⟨_,a,t,o,_,j⟩:=I.lstM m
 have f:d.toArray.size+a.toArray.size<=sizeLine:=by grind
 have c:¬(!d.toArray.isEmpty&&Builtin.List.listTooLong (d.toArray.size+a.toArray.size))=true:=by
  rw[notLongL f,Bool.and_false]
  grind
 refine call_meets F.slot_list_extend ⟨_,e,rfl⟩ F.entry_list_extend (F.args_list_extend_2 _ _)
  (AutoSeq1.list_extend_list_list_0 l _ n b _ t c (by omega) (by omega)) ⟨e,j,?_⟩
 refine⟨.non,_,I.lset g e (by simp) (r.append o) ?_,rfl,q⟩
 grind
inductive rCat(x:V)(y:V)(H:Hp)(Q:VK):Prop
 |mk (l b xs zs:_) (_:x= .ref l) (_:y= .ref b) (_:H l=some (.lst xs)) (_:H b=some (.lst zs)) (_:xs.length+zs.length<=sizeLine) (_:∀p,H p=none->Q (.ref p) (upd H p (.lst (xs++zs))))
theorem op_cat:OpR X (binaryOp .Add) rCat:=by
 intro _ s σ H x y v u Q I f d h
 obtain⟨l,b,_,_,rfl,rfl,k,j,_,q⟩:=h
 cases f
 cases d
 obtain⟨z,c,n,r,_,e⟩:=I.lstM k
 obtain⟨_,a,_,i,_,g⟩:=I.lstM j
 refine PySem.P.add_list e g ?_ (by grind)
 rw[(show c.toArray++a.toArray=(c++a).toArray by simp)]
 exact⟨.ref _,_,I.lnew (r.append i) (by rw[List.length_append];omega),rfl,q _ I.fresh⟩
inductive rRep(x:V)(y:V)(H:Hp)(Q:VK):Prop
 |mk (l k xs:_) (_:x= .ref l) (_:y= .int k) (_:H l=some (.lst xs)) (_: -(2^63)<=k) (_:k<2^63) (_:xs.length*k.toNat<=sizeLine) (_:∀p,H p=none->Q (.ref p) (upd H p (.lst (List.replicate k.toNat xs).flatten)))
theorem len_rep{α:Type}(xs:List α)(k):(List.replicate k xs).flatten.length=k*xs.length:=by
 simp_all
theorem op_rep:OpR X (binaryOp .Mult) rRep:=by
 intro pins s σ H x y v u Q I rx ry h
 obtain⟨l,k,xs,rfl,rfl,hH,h1,h2,hz,q⟩:=h
 cases rx
 obtain⟨t,rfl⟩:=ry
 obtain⟨z,b,n,r,hl,e⟩:=I.lstM hH
 have hlen:b.toArray.size*k.toNat<=sizeLine:=by simp_all
 have hcap:¬b.toArray.size*k.toNat>(2^63-1)/8:=by
  have:sizeLine<=(2^63-1)/8:=by decide
  omega
 have f:¬(!Builtin.List.listFitsIndex k)=true:=by
  rw[fitsIndex_both h1 h2]
  grind
 have d:¬Builtin.List.listTooLong (b.toArray.size*k.toNat)=true:=by
  rw[notLongL hlen]
  grind
 have hnew:List.foldl (fun x1 x2=>x1++x2) #[] (List.replicate (if b.toArray.isEmpty=true then 0 else k.toNat) b.toArray)=(List.replicate k.toNat b).flatten.toArray:=by
  have f0:=fun m=>by
   have:=foldl_rep b m []
   omega
  rw[f0]
  cases b with
  |nil=>simp
  |cons a r'=>rfl
 refine wpAny_binaryOp_repeat_ref (by decide) ⟨_,e,rfl⟩ (fun s'=>typeIs_int s' k t) noFill_list_mul F.fills_int_mul F.slot_int_rmul repeat_list F.slot_int_index.lookup
  (call_meets F.slot_int_rmul (typeIs_int s k t) F.entry_int_rmul (F.args_int_rmul_2 _ _) (int___rmul___int_list k t l b.toArray n)
   ⟨e,rfl,⟨_,e,rfl⟩,call_meets F.slot_list_mul ⟨_,e,rfl⟩ F.entry_list_mul (F.args_list_mul_2 _ _) (AutoListH.list___mul___list_int_3 l b.toArray n k t f hcap d) ⟨e,?_⟩⟩)
 rw[hnew]
 exact⟨.ref _,_,I.lnew (t':=s.toks) (r.rep k.toNat) (by rw[len_rep,Nat.mul_comm];exact hz),rfl,q _ I.fresh⟩
end
end L2
namespace Att
open PySem PySem.W PySem.Calls PyProof.Rows
theorem ints_of_wellAll{P}{h}:∀(ns)(vs),WellAll P h vs (ns.map WData.int)->IntsAre vs ns:=by
 intro ns
 induction ns with
 |nil=>
  intro vs w
  cases w
  exact .nil
 |cons n ns e=>
  intro vs w
  cases w with
  |cons a b=>
   cases a
   exact .cons _ _ (e _ b)
theorem script_of{l:OpenLaw}{n}(hn:l.most=some n){P}{h}{args}{vals}
  (hpre:l.row.toRowW.claim.pre args=true)(hwl:WellAll P h vals args):
  ∃a vs ns,vals=[Value.ref a]/\args=[WData.list (ns.map WData.int)]/\h.get? a=some {cls:= .type "list",data:= .seq vs.toArray}/\IntsAre vs ns/\ns.length<=n:=by
 have i:l.pre.holds [] _=true:=(pre_splitW hpre).2
 obtain⟨d,r,rfl,j,k⟩:=hasAllW_cons ((pre_splitW hpre).1)
 obtain rfl:=hasAllW_nil k
 obtain⟨xs,rfl,p⟩:=hasW_list j
 obtain⟨ns,rfl⟩:=items_int p
 have e:ns.length<=n:=by
  unfold OpenLaw.pre at i
  have g:(WTm.not (.lt (.lit (.int (n:Int))) (.len (.arg 0)))).holds [] {args:=[.list (ns.map .int)]}=true:=by
   have g:=(holds_andW i).1
   simp_all
  have h5:=condW_of g (w_not (w_lt w_lit (w_len_list (w_arg rfl))))
  simp_all
 cases hwl with
 |cons m w2=>
  cases w2
  cases m with
  |list o b=>exact⟨_,_,ns,rfl,rfl,o,ints_of_wellAll ns _ b,e⟩
theorem post_true(l:OpenLaw)(args):l.row.toRowW.claim.post args (.bool true) args=true:=
 postW_of
  (show WShape.has [] _ _=true by first|rfl|decide|omega)
  (w_eq_bool (w_res rfl) w_lit) rfl
theorem attach_call{l:OpenLaw}{n:Nat}{q:Program}{loose:List _}{XP:(Str->Option _)->Heap->Prop}{YP:World->Heap->Prop}{d:DefRec}
  (hn:l.most=some n)(hdf:d.params.defaults=[])
  (call:∀(w:World)(s₀ s₁:Shared)(mg mb:Str->Option _)(fa:Addr)(o:Obj)(pm cd doc:Value)(a:Addr)(vs:List _)(ns:List _),
   Ground q loose [] XP w s₀ mg mb s₁.heap->YP w s₁.heap->
   s₁.heap.get? fa=some o->o.data= .func (docDef d.name d.params d.body d.scope pm cd doc)->s₁.heap.CodeRec cd d.name->mg d.name=some (.ref fa)->
   s₁.heap.get? a=some {cls:= .type "list",data:= .seq vs.toArray}->IntsAre vs ns->ns.length<=n->s₁.gens=#[]->
   codeAny (model l.prog w) callerA (.call (.ref fa) ⟨[.ref a],[]⟩) (fun r s'=>r= .ok (.ret (.bool true))/\OldK s₁.heap s'.heap/\s'.os=s₁.os/\AllBare s'.gens) s₁):
  WalkO q loose XP YP l.row.toRowW d [] (fun f vs=>PySem.call f vs):=by
 intro w s₀ s₁ mg mb G Y fa o pm cd doc t x v A j m k z _ _ _ g _ _ i _
 obtain rfl:t= .none:=Dflts.none m hdf
 obtain rfl:x= .none:=Dflts.noKw m
 obtain⟨a,vs,ns,rfl,rfl,e,b,h⟩:=script_of hn g i
 refine enter_call (codeAny_mono (call w s₀ s₁ mg mb fa o pm cd doc a vs ns G Y v (fd_plain A) j k e b h z) fun r s' s=>?_)
 obtain⟨rfl,B,y,u⟩:=s
 exact⟨.inl ⟨.bool true,.bool true,[],rfl,fun _=>rfl,.bool true,post_true l _,fun _=>⟨List.Pairwise.nil,fun _ p=>(nomatch p)⟩⟩,B,y,u⟩
end Att
namespace L2
open PySem PySem.Spec PyProof.Rows
theorem vals_ints:∀{vs}{ns},IntsAre vs ns->Vals (ns.map V.int) vs
 |_,_,.nil=> .nil
 |_,_,.cons n t h=> .cons ⟨t,rfl⟩ (vals_ints h)
def Only(H:Hp):Prop:=∀b,H b=none\/∃o xs,H b=some (.frz o (.lst xs))
theorem law_call{P}{w}{K:PySem.W.Frag}{mg mb:Str->Option _}{CX}{k}{fa a}{fd}{x}{sp}{s₁:Shared}{vs:List _}{ns:List _}
  (KX:K.In s₁.heap)(hns:s₁.heap.Ns mainGlobals mg)(hb:s₁.heap.Ns builtinsNs mb)(hbb:∀x:Str,x≠"__name__"->mb x=bootBuiltins x) (hlim:s₁.heap.NoLimit) (hg:s₁.gens=#[])
  (ha:s₁.heap.get? a=some {cls:= .type "list",data:= .seq vs.toArray}) (hi:IntsAre vs ns) (hl:ns.length<=sizeLine) (hr:Room k callerA)
  (F:∀base:Heap,K.In base->base.Ns mainGlobals mg->FnOk P w K mg base CX k fa fd [x] sp) (hbind:∀(s:Shared)(u:Value),BindsTo s fd ⟨[u],[]⟩ [(x,u)])
  (hsp:∀H:Hp,Only H->SqL K H a (ns.map V.int)->sp [.ref a] H (fun v _=>v= .bl true) fun _ _ _=>False)
  (hCX:∀H e s',CX [] H s₁ (fun _ _ _=>False) e s'->False):
  codeAny (model P w) callerA (.call (.ref fa) ⟨[.ref a],[]⟩) (fun r s'=>r= .ok (.ret (.bool true))/\OldK s₁.heap s'.heap/\s'.os=s₁.os/\AllBare s'.gens) s₁:=by
 have rv:=vals_ints hi
 have lenV:=hi.length
 have i:∀H:Hp,Only H->SqL K H a (ns.map V.int)->HOk P w H s₁.heap->(∀b,H b≠none->b=a)->(H a≠none->K.lookup a=none)->
   codeAny (model P w) callerA (.call (.ref fa) ⟨[.ref a],[]⟩) (fun r s'=>r= .ok (.ret (.bool true))/\OldK s₁.heap s'.heap/\s'.os=s₁.os/\AllBare s'.gens) s₁:=by
  intro H hO hS l hA hK
  have f:∀{b:Addr}{o:Obj},s₁.heap.get? b=some o->H b=none->(hidT s₁.heap H).get? b=some o:=fun e n=>hidT_get e n
  have noA:∀{b:Addr}{o:Obj}{y:Array DictEntry}{A:Nat},s₁.heap.get? b=some o->o.data= .dict y A->H b=none:=fun{b o y A} e d=>by
   grind
  have g:∀{b:Addr}{m:Str->Option Value},s₁.heap.Ns b m->(hidT s₁.heap H).Ns b m:=fun{b m}⟨o,y,A,e,d,r⟩=>⟨o,y,A,f e (noA e d),d,r⟩
  have j:=fun b o e=>f (KX b o e) (by
   grind)
  refine codeAny_mono ((F _ j (g hns)).run callerA [] s₁ H ⟨[.ref a],[]⟩ [.ref a] [.ref a] _ _ hr (show Env0 P w K mg (hidT s₁.heap H) callerA [] s₁ H from⟨rfl,(show Mod K mg (hidT s₁.heap H)from⟨j,g hns,⟨mb,g hb,hbb⟩,let⟨mc,h1,h2⟩:=hlim;⟨mc,g h1,h2⟩⟩),fun b o e=>of_hidT e,Nat.le_of_eq (hidT_size _ _),trivial,fun b hb=>absurd (show b∈([]:List Addr)from hb) (by simp),l,.of_eq hg⟩) (hbind s₁ (.ref a)) (.cons rfl .nil) (hsp H hO hS)) fun r s' h=>?_
  cases r with
  |error e=>exact(hCX H e s' h).elim
  |ok fl=>
   cases fl with
   |next=>exact False.elim h
   |brk=>exact False.elim h
   |cont=>exact False.elim h
   |ret u=>
    obtain⟨v,H',os,t,un,p,r',q⟩:=h
    subst q
    obtain rfl:u=Value.bool true:=r'
    refine⟨rfl,OldK.of_keep fun b o e=>?_,os,t⟩
    cases q:H b with
    |none=>exact un.keep b o e q (by intro z;exact absurd (show b∈([]:List Addr)from z) (by simp)) (by simp)
    |some u=>
     rcases hO b with z|⟨ob,xs,z⟩
     ·rw[q]at z;cases z
     ·obtain⟨e1,_⟩:=l b _ z
      obtain⟨e2,_⟩:=p b _ (un.frzs b ob _ z)
      rw[e]at e1;cases e1
      exact e2
 cases hk:K.lookup a with
 |some o=>
  have e:=KX a o hk
  rw[ha]at e
  cases e
  refine i (fun _=>none) (fun _=> .inl rfl) (.inr ⟨_,vs.toArray,_,hk,rfl,rfl,rfl,by simp_all,by simpa using rv⟩) (fun b u z=>by cases z) (fun b z=>absurd rfl z) fun z=>absurd rfl z
 |none=>
  refine i (fun b=>if b=a then some (.frz {cls:= .type "list",data:= .seq vs.toArray} (.lst (ns.map V.int)))else none) (fun b=>?_) (.inl (.inr ⟨{cls:= .type "list",data:= .seq vs.toArray},if_pos rfl⟩)) (fun b u z=>?_) (fun b z=>?_) fun _=>hk
  ·grind
  ·by_cases hb:b=a
   ·cases((if_pos hb).symm.trans z)
    subst hb
    exact⟨ha,by simp_all,vs,_,rv,ha⟩
   ·grind
  ·simp_all
theorem walk_of{l:PySem.W.OpenLaw}{n k:Nat}{q:Program}{loose:List _}{XP:(Str->Option _)->Heap->Prop}{YP:World->Heap->Prop}{d:DefRec}{K:Params->PySem.W.Frag}{CX:World->CXT}{sp:World->Sp}{x:Str}
  (hn:l.most=some n)(hn2:n<=sizeLine)(hdf:d.params.defaults=[])(hr:Room k callerA)
  (hY:∀(w:World)(h:Heap),YP w h->(K w.params).In h)
  (F:∀(w:World)(mg:Str->Option _)(fa:Addr)(h:Heap),(K w.params).In h->h.Ns mainGlobals mg->mg d.name=some (.ref fa)->
   ∃fd:FuncData,(∀(s:Shared)(u:Value),BindsTo s fd ⟨[u],[]⟩ [(x,u)])/\
    ∀base:Heap,(K w.params).In base->base.Ns mainGlobals mg->FnOk l.prog w (K w.params) mg base (CX w) k fa fd [x] (sp w))
  (hsp:∀(w:World)(H:Hp)(a:Addr)(ns:List Int),ns.length<=n->Only H->SqL (K w.params) H a (ns.map V.int)->sp w [.ref a] H (fun v _=>v= .bl true) fun _ _ _=>False)
  (hCX:∀(w:World)(H:Hp)(s:Shared)(e:Value)(s':Shared),CX w [] H s (fun _ _ _=>False) e s'->False):
  PySem.W.WalkO q loose XP YP l.row.toRowW d [] (fun f vs=>PySem.call f vs):=by
 refine Att.attach_call hn hdf fun w _ A mg _ fa o _ _ _ a vs ns G Y _ _ _ m j i c r=>?_
 have p:=hY w _ Y
 obtain⟨fd,B,t⟩:=F w mg fa _ p G.T.g m
 exact law_call p G.T.g G.T.b G.T.builtins G.T.nolimit r j i (Nat.le_trans c hn2) hr t B (fun H z y=>hsp w H a ns c z y) fun H e s'=>hCX w H A e s'
def inClass(s:Stmt)(j:Nat):Stmt:=match s with
 | .ClassDef _ _ _ body _ _ _ _ _ _ _=>body.getD j (.Pass ⟨0,0,0,0⟩)
 |_=> .Pass ⟨0,0,0,0⟩
def defArgs(s:Stmt):Arguments:=match s with
 | .FunctionDef _ a _ _ _ _ _ _ _ _=>a
 |_=>{posonlyargs:=[],args:=[],vararg:=none,kwonlyargs:=[],kw_defaults:=[],kwarg:=none,defaults:=[]}
def defBody(s:Stmt):List Stmt:=match s with
 | .FunctionDef _ _ b _ _ _ _ _ _ _=>b
 |_=>[]
def defScope(s:Stmt):Scope:=match s with
 | .FunctionDef _ _ _ _ _ _ sc _ _ _=>sc
 |_=>{kind:= .function,names:=[],isGenerator:=false,isCoroutine:=false}
abbrev CX0:CXT:=fun _ _ _ _ _ _=>False
abbrev E0:XK:=fun _ _ _=>False
theorem pass0{X}:Passes CX0 X E0:=fun _ _ _ _ _ _ _ h=>h.elim
structure Fun(K:PySem.W.Frag)(x qual:Str)(st:Stmt)(f:Addr)(fd:FuncData):Prop where
 ex:∃(oc:Value)(od:Option Addr)(kV doc pm:Value)(an:Option Addr)(cdv ct:Value)(osl:Array (Option Value)),
  fd=PySem.W.fnOf x qual (defArgs st) (defBody st) (defScope st) .none kV doc pm an cdv ct/\K.lookup f=some ⟨oc,od,.func fd,osl⟩/\PySem.W.codeIn K cdv qual=true
 kp:PySem.W.keepIn K (.ref f)=true
section
variable{P:Program}{w:World}{K:PySem.W.Frag}{mg:Str->Option Value}{base:Heap}
theorem Fun.ok{x qual}{st}{f}{fd}{N ps:List _}{k}{sp:Sp}(F:Fun K x qual st f fd)(S:FnScope N ps (defScope st))(len:∀vs H Q E,sp vs H Q E->vs.length=ps.length)
  (hbody:∀(cdv:Value)(A:Around)(outer:List _)(s:Shared)(H:Hp)(vs:List V)(Q:VK)(E:XK),Room k (A.deeper (envOfC qual (defScope st) s.heap.objs.size f cdv))->sp vs H Q E->
   ∃t,PSs (cxOf CX0 P w K mg base N qual (defScope st) f cdv A outer s H E).nox (defBody st) t/\t {nx:=fun _ H'=>Q .non H',rt:=Q} (start N vs) H):FnOk P w K mg base CX0 (k+1) f fd ps sp:=by
 obtain⟨_,_,kV,_,_,_,cdv,_,_,rfl,c,a⟩:=F.ex
 refine fn_of c a S len fun A outer s H vs Q E d b=>?_
 obtain⟨t,h,q⟩:=hbody _ A _ s H vs Q E d b
 exact⟨t,h.nox,q⟩
theorem Fun.binds{x qual}{st}{f}{fd}{ps}(F:Fun K x qual st f fd)
  (h:∀(kV doc pm:Value)(an:Option _)(cdv ct:Value)(us:List _),us.length=ps.length->bindArgs (PySem.W.fnOf x qual (defArgs st) (defBody st) (defScope st) .none kV doc pm an cdv ct) ⟨us,[]⟩=pure (ps.zip us)):Binds K fd ps []:=by
 obtain⟨_,_,kV,doc,pm,an,cdv,ct,_,rfl,_,_⟩:=F.ex
 exact .all (h kV doc pm an cdv ct)
end
theorem hu_of{A}{k}(hr:Room k A):A.units+1<cLine:=Nat.lt_of_le_of_lt (Nat.add_le_add_left (by decide) _) hr.units
section
variable{X:Cx}
theorem pv(i){x}{pos}(hN:X.N[i]?=some x:=by rfl)(hv:Vis X.env.scope x:=by first|exact Or.inl rfl|exact Or.inr (Or.inl rfl)|exact Or.inr (Or.inr rfl))(hd:(x==("__debug__":Str))=false:=by decide)
  (hcd:(x==("__classdict__":Str))=false:=by decide):PE X (.Name x pos) (tVar i):=pe_var hN hv hd hcd
end
theorem iteF{A B:Prop}(h:B):if false=true then A else B:=by
 simp_all
theorem iteT{A B:Prop}(h:A):if true=true then A else B:=by
 assumption
theorem ite2{c A B:Prop}[Decidable c](h1:c->A)(h2:¬c->B):if c then A else B:=by
 simp_all
def Same(H H':Hp):Prop:=∀b o,H b=some o->H' b=some o
theorem Same.refl(H:Hp):Same H H:=fun _ _ h=>h
theorem Same.trans{H H1 H2}(a:Same H H1)(b:Same H1 H2):Same H H2:=fun c o h=>b c o (a c o h)
theorem Same.free{H H'}(e:Same H H'){l}(h:H' l=Option.none):H l=Option.none:=by
 cases q:H l with
 |none=>rfl
 |_ o=>
  rw[e l o q]at h
  cases h
theorem Same.seq{K}{H H'}{a}{xs}(e:Same H H')(h:SqL K H a xs):SqL K H' a xs:=by
 rcases h with(h|⟨o,h⟩)|h
 ·exact .inl (.inl (e _ _ h))
 ·exact .inl (.inr ⟨o,e _ _ h⟩)
 ·exact .inr h
def cxBlk(X:Cx)(scope:Scope)(cl:List (Str×Addr))(C:Addr)(N:List Str)(fp:List Addr)(s:Shared)(H:Hp):Cx:=
 {X with N:=N,s₀:=s,H₀:=H,env:=compEnvC scope cl C X.env,outer:=X.stack,ex:=fp,fn:=fun _=>false,pn:=[],xe:=fun _ _=>False}
def PTs(X:Cx)(ifs:List Expr)(t:TT):Prop:=
 ∀(pins:List (Addr×Obj))(s:Shared)(σ:St)(H:Hp)(Q:Bool->Hp->Prop),Inv X pins σ H s->t σ H Q->
  wpAny (model X.prog X.w) X.A (forIn ifs true fun c r=>if r=true then do let ok<-isTrue c X.env (eval c X.env);pure (ForInStep.yield ok)else pure (ForInStep.yield r)) (TP X pins σ Q) X.xe s
def tTrue:TT:=fun _ H Q=>Q true H
theorem pts_nil{X:Cx}:PTs X [] tTrue:=fun _ _ _ H _ I h=>wpAny_tests_nil ⟨H,I,h⟩
theorem pts_one{X:Cx}{c:Expr}{t:TT}(h:PT X c t):PTs X [c] t:=fun pins s σ H Q I q=>wpAny_tests_one (h pins s σ H Q I q)
theorem codeAny_compLoop_go{prog:Program}{w:World}{A:Around}{R:Result->Shared->Prop}{s:Shared}{elt target iter:Expr}{ifs:List Expr}{scope:Scope}{pos:Pos}{it acc:Value}{env:Env}(I:Nat->Shared->Prop)
  (turn:∀n s,I n s->wpAny (model prog w) A (pyNext it) (fun r s₁=>match r with
   |none=>R (.ok .next) s₁
   |some v=>wpAny (model prog w) A (letOwnedTupleGo target it v) (fun _ s₁'=>wpAny (model prog w) A (assign target env v) (fun _ s₂=>
     wpAny (model prog w) A (forIn ifs true fun c r=>if r=true then do let ok<-isTrue c env (eval c env);pure (ForInStep.yield ok)else pure (ForInStep.yield r)) (fun ok s₃=>
      if ok=true then wpAny (model prog w) A (eval elt env) (fun x s₄=>
       wpAny (model prog w) A (call (.builtin "list.append") [acc,x]) (fun _ s₅=>∃m,m<n/\I m s₅) (fun _ _=>False) s₄) (fun _ _=>False) s₃
      else∃m,m<n/\I m s₃) (fun _ _=>False) s₂) (fun _ _=>False) s₁') (fun _ _=>False) s₁) (fun _ _=>False) s)
  (n:Nat) (h:I n s):
  codeAny (model prog w) A (.compLoop (.ListComp elt [⟨target,iter,ifs,0⟩] scope pos) 0 it acc env) R s:=by
 have lift:∀{α:Type}{t:Sem α}{Q:α->Shared->Prop}{E:Value->Shared->Prop}{s:Shared},wpAny (model prog w) A t Q (fun _ _=>False) s->wpAny (model prog w) A t Q E s:=
  fun h=>wpAny_mono h (fun _ _ q=>q) fun _ _ q=>q.elim
 refine codeAny_loop rfl I (fun n s hI=>?_) n h
 show wpAny _ A ((compTurn (.ListComp elt [⟨target,iter,ifs,0⟩] scope pos) 0 it acc env).onRaise (fun x=>do noteFrame x env;theTreesLotGoes x)) _ _ s
 refine wpAny_noted ?_
 rw[compTurn_list]
 refine wpAny_bind (wpAny_standAt (wpAny_bind (wpAny_mono (lift (turn n s hI)) (fun r s₁ h₁=>?_) fun _ _ h'=>h')))
 cases r with
 |none=>exact wpAny_pure h₁
 |some v=>
  refine wpAny_bind (wpAny_mono (lift h₁) (fun _ s₁' h₁'=>?_) fun _ _ h'=>h')
  refine wpAny_bind (wpAny_mono (lift h₁') (fun _ s₂ h₂=>wpAny_bind (wpAny_mono (lift h₂) (fun ok s₃ h₃=>?_) fun _ _ h'=>h')) fun _ _ h'=>h')
  cases ok with
  |false=>exact wpAny_pure ⟨rfl,h₃⟩
  |true=>
   exact wpAny_bind (wpAny_bind (wpAny_mono (lift h₃) (fun x s₄ h₄=>wpAny_bind (wpAny_mono (lift h₄) (fun _ s₅ h₅=>wpAny_pure (wpAny_pure ⟨rfl,h₅⟩)) fun _ _ h'=>h')) fun _ _ h'=>h'))
def BsOk(XN:List Str)(xn sn:List (Str×NameKind)):List Str->List (Option Nat)->Prop
 |[],[]=>True
 |_::N,none::bs=>BsOk XN xn sn N bs
 |x::N,some j::bs=>(XN[j]?=some x/\xn.lookup x=some .cell/\sn.lookup x=some .free)/\BsOk XN xn sn N bs
 |_,_=>False
def bst(bs:List (Option Nat))(σ:St):St:=bs.map fun o=>o.bind fun j=>(σ[j]?).join
theorem BsOk.len{XN:List Str}{xn sn:List (Str×NameKind)}:∀{N:List Str}{bs:List (Option Nat)},BsOk XN xn sn N bs->bs.length=N.length
 |[],[],_=>rfl
 |_::N,none::bs,h=>congrArg (·+1) (BsOk.len (N:=N) (bs:=bs) h)
 |_::N,some _::bs,h=>congrArg (·+1) (BsOk.len (N:=N) (bs:=bs) h.2)
theorem BsOk.get{XN:List Str}{xn sn:List (Str×NameKind)}:∀{N:List Str}{bs:List (Option Nat)}{i j:Nat},BsOk XN xn sn N bs->bs[i]?=some (some j)->∃x,N[i]?=some x/\XN[j]?=some x/\xn.lookup x=some .cell/\sn.lookup x=some .free
 |[],[],_,_,_,e=>by simp at e
 |_::N,none::bs,0,_,_,e=>by simp at e
 |_::N,none::bs,i+1,j,h,e=>by
  obtain⟨x,h1,h2⟩:=BsOk.get (N:=N) (bs:=bs) (i:=i) (j:=j) h (by simpa using e)
  exact⟨x,by simpa using h1,h2⟩
 |x::N,some k::bs,0,j,h,e=>by
  have:k=j:=by simpa using e
  subst this
  exact⟨x,rfl,h.1⟩
 |_::N,some k::bs,i+1,j,h,e=>by
  obtain⟨x,h1,h2⟩:=BsOk.get (N:=N) (bs:=bs) (i:=i) (j:=j) h.2 (by simpa using e)
  exact⟨x,by simpa using h1,h2⟩
theorem relabel_free{env:Env}:∀{names:List (Str×NameKind)}{x:Str},names.lookup x=some .free->
  ((names.map fun(n,k)=>if(k==NameKind.free&&env.scope.kind== .function&&env.kindOf n==some .cell)then(n,NameKind.cell)else(n,k)).lookup x=some .cell\/
  (names.map fun(n,k)=>if(k==NameKind.free&&env.scope.kind== .function&&env.kindOf n==some .cell)then(n,NameKind.cell)else(n,k)).lookup x=some .free)
 |[],_,h=>by simp at h
 |(n,k)::r,x,h=>by
  have ih:=@relabel_free env r x
  simp only[List.map_cons]
  cases hx:x==n with
  |true=>
   simp only[List.lookup_cons,hx]at h
   cases h
   by_cases hc:(NameKind.free==NameKind.free&&env.scope.kind== .function&&env.kindOf n==some .cell)=true
   ·rw[if_pos hc];simp only[List.lookup_cons,hx];simp
   ·rw[if_neg hc];simp only[List.lookup_cons,hx];simp
  |false=>
   simp only[List.lookup_cons,hx]at h
   by_cases hc:(k==NameKind.free&&env.scope.kind== .function&&env.kindOf n==some .cell)=true
   ·rw[if_pos hc];simp only[List.lookup_cons,hx];exact ih h
   ·rw[if_neg hc];simp only[List.lookup_cons,hx];exact ih h
theorem relabel_back{env:Env}:∀{names:List (Str×NameKind)}{x:Str},(∀y∈names,y.2≠.cell)->
  ((names.map fun(n,k)=>if(k==NameKind.free&&env.scope.kind== .function&&env.kindOf n==some .cell)then(n,NameKind.cell)else(n,k)).lookup x=some .cell\/
  (names.map fun(n,k)=>if(k==NameKind.free&&env.scope.kind== .function&&env.kindOf n==some .cell)then(n,NameKind.cell)else(n,k)).lookup x=some .free)->names.lookup x=some .free
 |[],_,_,h=>by simp at h
 |(n,k)::r,x,hn,h=>by
  have ih:=@relabel_back env r x fun y hy=>hn y (.tail _ hy)
  simp only[List.map_cons]at h
  cases hx:x==n with
  |true=>
   by_cases hc:(k==NameKind.free&&env.scope.kind== .function&&env.kindOf n==some .cell)=true
   ·simp only[Bool.and_eq_true,beq_iff_eq]at hc
    simp only[List.lookup_cons,hx]
    rw[hc.1.1]
   ·rw[if_neg hc]at h
    simp only[List.lookup_cons,hx]at h⊢
    rcases h with h|h
    ·exact absurd (Option.some.inj h) (hn (n,k) (.head _))
    ·exact h
  |false=>
   simp only[List.lookup_cons,hx]
   by_cases hc:(k==NameKind.free&&env.scope.kind== .function&&env.kindOf n==some .cell)=true
   ·rw[if_pos hc]at h;simp only[List.lookup_cons,hx]at h;exact ih h
   ·rw[if_neg hc]at h;simp only[List.lookup_cons,hx]at h;exact ih h
structure Blk(X:Cx)(scope:Scope)(cl:List (Str×Addr))(N:List Str)(bs:List (Option Nat)):Prop where
 clos:closureFor scope X.env=pure cl
 kind:scope.kind= .function
 cell:∀y∈scope.names,y.2≠.cell
 names:∀y∈scope.names,y.2= .local->scope.names.lookup y.1=some .local
 cl1:∀p∈cl,X.env.cells.lookup p.1=some p.2
 cl2:∀y∈scope.names,y.2= .free->(cl.lookup y.1).isSome=true
 bs:BsOk X.N X.env.scope.names scope.names N bs
section
variable{X:Cx}{scope:Scope}{cl:List (Str×Addr)}{N:List Str}{bs:List (Option Nat)}{pins:List (Addr×Obj)}{σ:St}{H:Hp}{s:Shared}{fp:List Addr}{C:Addr}
theorem Blk.c1(B:Blk X scope cl N bs){x:Str}{c:Addr}(h:cl.lookup x=some c):X.env.cells.lookup x=some c:=B.cl1 (x,c) (PySem.mem_of_lookup h)
theorem Blk.c2(B:Blk X scope cl N bs){x:Str}(h:(compEnvC scope cl C X.env).kindOf x=some .cell\/(compEnvC scope cl C X.env).kindOf x=some .free):∃c,cl.lookup x=some c:=by
 have h1:=relabel_back (env:=X.env) B.cell h
 exact Option.isSome_iff_exists.mp (B.cl2 (x,.free) (PySem.mem_of_lookup h1) rfl)
theorem Blk.ok(B:Blk X scope cl N bs)(I:Inv X pins σ H s)(hf:∀b∈fp,FpOk X pins H b) (ho:∀b∈fp,∃o,s.heap.get? b=some o/\∀v,o.data≠.cell v) (hC:s.heap.objs.size<=C):(cxBlk X scope cl C N fp s H).Ok:=by
 refine⟨I.ok.mod,B.kind,I.ok.glob,I.ok.blt,hC,fun x y c h1 h2=>I.ok.inj x y c (B.c1 h1) (B.c1 h2),fun x h=>B.c2 h,fun x c h _=>(Bool.false_ne_true h).elim,I.ok.hd,I.ok.frames,.inl rfl,fun b hb=>?_,I.bs,Nat.le_trans I.ok.bsz I.sz,fun b o e hb=>?_,fun b hb hb'=>?_,I.stack,I.stkFree⟩
 ·obtain⟨o,e,_⟩:=ho b hb
  obtain⟨_,_,_,_,f4,_⟩:=hf b hb
  exact⟨Nat.ne_of_lt (Nat.lt_of_lt_of_le (Heap.lt_size e) hC),fun x c h=>f4 x c (B.c1 h)⟩
 ·obtain⟨_,_,_,f3,_⟩:=hf b hb
  rcases f3 with z|z
  ·exact I.ok.noex b o e z
  ·exact absurd (Nat.lt_of_lt_of_le (Heap.lt_size e) (Nat.le_trans I.ok.bsz z)) (Nat.lt_irrefl _)
 ·obtain⟨_,f1,f2,_⟩:=hf b hb
  rcases List.mem_cons.mp (I.stkSub b hb')with z|z
  ·exact f1 z
  ·exact f2 z
theorem Blk.inv(B:Blk X scope cl N bs)(I:Inv X pins σ H s)(hf:∀b∈fp,FpOk X pins H b) (ho:∀b∈fp,∃o,s.heap.get? b=some o/\∀v,o.data≠.cell v) (hC:s.heap.objs.size<=C) {h':Heap} {t':Nat}
  (hk:∀b o,s.heap.get? b=some o->h'.get? b=some o) {m:Str->Option Value} (hn:h'.Ns C m) {D:Addr} {oD:Obj} (hD:h'.get? D=some oD) (hD1:s.heap.objs.size<=D) (hDC:D≠C) (hDd:∀v,oD.data≠.cell v):
  Inv (cxBlk X scope cl C N fp s H) [(D,oD)] (bst bs σ) H {s with heap:=h',toks:=t'}:=by
 have ok:(cxBlk X scope cl C N fp s H).Ok:=B.ok I hf ho hC
 refine⟨ok,rfl,I.bare,Un.kept hk,⟨m,hn,fun i x v e1 e2 e3=>?_⟩,fun x c h=>?_,I.hok.fresh hC,fun x c h=>I.freeC x c (B.c1 h),fun p hp=>?_,I.hok.kept hk,?_⟩
 ·have e2':(bst bs σ)[i]?=some (some v):=e2
  unfold bst at e2'
  rw[List.getElem?_map]at e2'
  cases q:bs[i]? with
  |none=>rw[q]at e2';cases e2'
  |some o=>
   rw[q]at e2'
   cases o with
   |none=>cases e2'
   |some j=>
    obtain⟨y,y1,y2,y3,y4⟩:=B.bs.get q
    have e1':N[i]?=some x:=e1
    rw[e1']at y1
    cases y1
    have e4:σ[j]?=some (some v):=by
     have z:(σ[j]?).join=some v:=Option.some.inj e2'
     cases w:σ[j]? with
     |none=>rw[w]at z;cases z
     |some o=>rw[w]at z;rw[show o=some v from z]
    obtain⟨mx,hmx,lx⟩:=I.loc
    obtain⟨u,r,l⟩:=lx j x v y2 e4 (.inr (.inl y3))
    refine⟨u,r,.inr ⟨relabel_free (env:=X.env) y4,?_⟩⟩
    rcases l with⟨l1,_⟩|⟨_,c,l2,l3⟩
    ·have l1':X.env.scope.names.lookup x=some .local:=l1
     rw[y3]at l1'
     cases l1'
    ·obtain⟨c',h'⟩:=Option.isSome_iff_exists.mp (B.cl2 (x,.free) (PySem.mem_of_lookup y4) rfl)
     have h2:=B.c1 h'
     rw[l2]at h2
     cases h2
     obtain⟨oc,hoc,hd⟩:=l3
     exact⟨c,h',oc,hk _ _ hoc,hd⟩
 ·obtain⟨v,oc,hoc,hd⟩:=I.cell x c (B.c1 h)
  exact⟨v,oc,hk _ _ hoc,hd⟩
 ·have e:p=(D,oD):=by simpa[cxBlk]using hp
  subst e
  refine⟨hD,I.hok.fresh hD1,hDC,fun z=>?_,hDd⟩
  have z':D∈frs X.stack:=z
  rcases List.mem_cons.mp (I.stkSub D z')with q|q
  ·exact Nat.lt_irrefl _ (Nat.lt_of_lt_of_le I.lt (by rw[<-q];exact hD1))
  ·exact I.nofs hD1 q
 ·show(bst bs σ).length=N.length
  unfold bst
  rw[List.length_map]
  exact B.bs.len
end
def tLC(bs:List (Option Nat))(wi:TI)(g:TG)(tt:TT)(te:TE):TE:=fun σ H Q=>wi σ H fun J H1=>∃W:Nat->Nat->List V->St->Hp->Prop,(∃m,W 0 m [] (bst bs σ) H1)/\∀i m ys σ' H',W i m ys σ' H'->
 (J.stop i H'/\ys.length<=sizeLine/\∀p,H' p=none->Q (.ref p) (upd H' p (.lst ys)))\/
 (J.go i H'/\ys.length<sizeLine/\∃N:List V->St->Hp->Prop,(∀zs σ2 H2,N zs σ2 H2->∃m',m'<m/\W (i+1) m' zs σ2 H2)/\∀x H2,J.yld i H' x H2->g x σ' H2 fun σ3 H3=>tt σ3 H3 fun b H4=>
  if b=true then te σ3 H4 fun v H5=>N (ys++[v]) σ3 H5 else N ys σ3 H4)
theorem pe_lc{X:Cx}{scope:Scope}{cl:List (Str×Addr)}{N:List Str}{bs:List (Option Nat)}{tg iter elt:Expr}{ifs:List Expr}{pos:Pos}{wi:TI}{g:TG}{tt:TT}{te:TE}(B:Blk X scope cl N bs)(hc:X.calm=true)
  (hi:PI X tg iter wi)(hg:∀C fp s H,PG (cxBlk X scope cl C N fp s H) tg g) (ht:∀C fp s H,PTs (cxBlk X scope cl C N fp s H) ifs tt) (he:∀C fp s H,PE (cxBlk X scope cl C N fp s H) elt te)
  (hs:∀x,foldedSetIterable iter X.env x=pure x:=by intro _;rfl):
  PE X (.ListComp elt [⟨tg,iter,ifs,0⟩] scope pos) (tLC bs wi g tt te):=by
 intro pins s σ H Q I h
 rw[eval_ListComp]
 refine wpAny_comprehension_free (use:=none) rfl hs B.clos B.kind B.names (thn (hi pins s σ H _ I h) fun v s1 h1=>thn h1 fun itv s2 h2=>?_)
 obtain⟨it,fp,tn,J,H2,rfl,I2,T,st2,f2,W,⟨m0,w0⟩,turn⟩:=h2
 refine wpAny_newObj_type (wpAny_newFunctionEnv B.cell (by intro y hy;simp at hy) (fun h₁ hns₁ hsb₁=>?_) B.kind)
 dsimp only at hns₁ hsb₁⊢
 generalize hG:s2.heap.push {cls:= .type "list",dict:=none,data:= .seq ([]:List Value).toArray}=G at hns₁ hsb₁⊢
 have hC:G.objs.size=s2.heap.objs.size+1:=by rw[<-hG,Heap.size_push]
 have hDC:s2.heap.objs.size≠G.objs.size:=by rw[hC];exact Nat.ne_of_lt (Nat.lt_succ_self _)
 have hCle:s2.heap.objs.size<=G.objs.size:=by rw[hC];exact Nat.le_succ _
 have old:∀b o,s2.heap.get? b=some o->h₁.get? b=some o:=fun b o e=>hsb₁.extBut b o (by rw[hC];exact Nat.ne_of_lt (Nat.lt_succ_of_lt (Heap.lt_size e))) (Heap.get?_push_of_some _ (hG▸Heap.get?_push_of_some _ e))
 have hacc:h₁.get? s2.heap.objs.size=some {cls:= .type "list",data:= .seq ([]:List Value).toArray 0}:=hsb₁.extBut _ _ hDC (Heap.get?_push_of_some _ (hG▸Heap.get?_push_size _ rfl))
 have stat:∀{D:Addr}{o:Obj}{H':Hp},s2.heap.objs.size<=D->(∀b∈fp,H' b=none)->∀b∈fp,FpOk (cxBlk X scope cl G.objs.size N fp s2 H2) [(D,o)] H' b:=fun{D o H'} hD hn b hb=>by
  obtain⟨ob,eb,_⟩:=T.obj _ _ st2 b hb
  obtain⟨_,f1,f3,f4,f5,_⟩:=f2 b hb
  have ok:=B.ok I2 f2 (T.obj _ _ st2) (C:=G.objs.size) hCle
  refine⟨hn b hb,(ok.exf b hb).1,ok.exfs b hb,.inl hb,(ok.exf b hb).2,fun p hp=>?_⟩
  have e:p=(D,o):=by simpa[cxBlk]using hp
  subst e
  exact Nat.ne_of_gt (Nat.lt_of_lt_of_le (Heap.lt_size eb) hD)
 have loop:∀s₃:Shared,s₃={s2 with heap:=h₁,toks:=s2.toks+([]:List (Str×Value)).length}->
   codeAny (model X.prog X.w) X.A (.compLoop (.ListComp elt [⟨tg,iter,ifs,0⟩] scope pos) 0 (.ref it) (.ref s2.heap.objs.size) (compEnvC scope cl G.objs.size X.env))
    (compPost (model X.prog X.w) X.A X.xe none (EP X pins σ Q) (.ref s2.heap.objs.size) G.objs.size) s₃:=by
  rintro s₃ rfl
  refine codeAny_compLoop_go (fun n s'=>∃i ys its k σ' H',Inv (cxBlk X scope cl G.objs.size N fp s2 H2) [(s2.heap.objs.size,{cls:= .type "list",data:= .seq (List.toArray its) k})] σ' H' s'/\Vals ys its/\tn i s'.heap/\(∀b∈fp,H' b=none)/\W i n ys σ' H') ?_ m0
   ⟨0,[],[],0,bst bs σ,H2,B.inv I2 f2 (T.obj _ _ st2) hCle old hns₁ hacc (Nat.le_refl _) hDC (fun v z=>nomatch z),.nil,T.keep _ _ _ st2 fun b _ o e=>old b o e,fun b hb=>(f2 b hb).1,w0⟩
  rintro n s3 ⟨i,ys,its,k,σ3,H3,I3,rv,st3,fr3,w3⟩
  have pD:=I3.pin _ (List.mem_append_right _ (.head _))
  rcases turn i n ys σ3 H3 w3 with⟨stop,hz,qn⟩|⟨go,hz,NN,hNN,step⟩
  ·refine thn (T.done (cxBlk X scope cl G.objs.size N fp s2 H2) rfl rfl rfl hc i _ s3 σ3 H3 (fun _ _=>False) I3 (stat (Nat.le_refl _) fr3) st3 stop) fun r s4 xq1=>?_
   obtain⟨hr,I4⟩:=xq1
   subst hr
   have pD4:=I4.pin _ (List.mem_append_right _ (.head _))
   obtain⟨m4,hn4,_⟩:=I4.loc
   refine⟨m4,hn4,fun h5 sb5=>?_⟩
   have hD5:h5.get? s2.heap.objs.size=some {cls:= .type "list",data:= .seq (List.toArray its) k}:=sb5.extBut _ _ hDC pD4.1
   have k5:∀b o,b≠G.objs.size->s4.heap.get? b=some o->h5.get? b=some o:=fun b o hb e=>sb5.extBut b o hb e
   have hC4:H3 G.objs.size=none:=I4.free
   have hok4:HOk X.prog X.w H3 s4.heap:=I4.hok
   have hok5:HOk X.prog X.w (upd H3 s2.heap.objs.size (.lst ys)) h5:=fun b u e=>by
    by_cases hb:b=s2.heap.objs.size
    ·subst hb
     rw[upd_same]at e
     cases e
     exact⟨hz,its,k,rv,hD5⟩
    ·rw[upd_ne hb]at e
     have nC:∀c u',H3 c=some u'->c≠G.objs.size:=fun c u' q z=>by rw[z,hC4]at q;cases q
     have nD:∀c u',H3 c=some u'->c≠s2.heap.objs.size:=fun c u' q z=>by rw[z,pD4.2.1]at q;cases q
     refine(hok4 b u e).stay (fun c v hc' q=>k5 c v ?_ q) (fun c q=>by rw[upd_ne (nD c _ q)];exact q) fun c xs q=>by rw[upd_ne (nD c _ q)];exact q
     rcases hc' with z|z
     ·rw[z];exact nC b u e
     ·exact nC c _ z
   have un4:Un (frs X.stack) fp H2 H3 s2.heap s4.heap:=I4.base
   have neC:∀b o,s2.heap.get? b=some o->b≠G.objs.size:=fun b o e=>Nat.ne_of_lt (Nat.lt_of_lt_of_le (Heap.lt_size e) hCle)
   have neD:∀b o,s2.heap.get? b=some o->b≠s2.heap.objs.size:=fun b o e=>Nat.ne_of_lt (Heap.lt_size e)
   have un5:Un (frs X.stack) fp H2 (upd H3 s2.heap.objs.size (.lst ys)) s2.heap h5:={
    keep:=fun b o e n hb hx=>k5 b o (neC b o e) (un4.keep b o e n hb hx)
    slot:=fun b o e n hb hx=>let⟨sl,q⟩:=un4.slot b o e n hb hx;⟨sl,k5 b _ (neC b o e) q⟩
    free:=fun b o e n hx=>by rw[upd_ne (neD b o e)];exact un4.free b o e n hx
    there:=fun b o e hx=>let⟨o',q⟩:=un4.there b o e hx;⟨o',k5 b _ (neC b o e) q⟩
    tups:=fun b xs e=>by rw[upd_ne (ne_of_none e (I2.hok.fresh (Nat.le_refl _)))];exact un4.tups b xs e
    frzs:=fun b o u e=>by rw[upd_ne (ne_of_none e (I2.hok.fresh (Nat.le_refl _)))];exact un4.frzs b o u e
    tbls:=fun b ps e=>by rw[upd_ne (ne_of_none e (I2.hok.fresh (Nat.le_refl _)))];exact un4.tbls b ps e}
   refine⟨.ref s2.heap.objs.size,_,I2.call' (s':={s4 with heap:=h5}) ((show s4.os=s2.os from I4.os)) un5 hok5 I4.bare (fun b hb=>?_),rfl,qn _ pD4.2.1⟩
   obtain⟨_,f1,f3,f4,f5,f6⟩:=f2 b hb
   exact⟨f4,f1,f5,f6⟩
  ·refine thn (T.item (cxBlk X scope cl G.objs.size N fp s2 H2) rfl rfl rfl hc i _ s3 σ3 H3 (fun _ _=>False) I3 (stat (Nat.le_refl _) fr3) st3 go) fun r s4 xq1=>?_
   obtain⟨u,hr,h4⟩:=xq1
   subst hr
   refine thn h4 fun _ s5 xq1=>?_
   obtain⟨x,H5,I5,r5,y5,st5,fr5⟩:=xq1
   have I5':=I5.pinned (stat (Nat.le_refl _) fr5) (T.obj _ _ st5)
   refine thn (hg _ _ _ _ _ s5 σ3 H5 x u _ I5' r5 (step x H5 y5)) fun _ s6 xq1=>?_
   obtain⟨σ6,H6,I6,q6⟩:=xq1
   refine thn (ht _ _ _ _ _ s6 σ6 H6 _ I6 q6) fun ok s7 xq1=>?_
   obtain⟨H7,I7,q7⟩:=xq1
   have back:∀{σ8:St}{H8:Hp}{s8:Shared}{pl:List (Addr×Obj)},Inv (cxBlk X scope cl G.objs.size N fp s2 H2) (pl++pinsAt fp s5.heap) σ8 H8 s8->tn (i+1) s8.heap/\∀b∈fp,H8 b=none:=fun{σ8 H8 s8 pl} I8=>
    ⟨T.keep _ _ _ st5 fun b hb o e=>(I8.pin (b,o) (List.mem_append_right _ (List.mem_append_right _ (mem_pinsAt hb e)))).1,fun b hb=>by
     obtain⟨o,e,d⟩:=T.obj _ _ st5 b hb
     exact(I8.pin (b,o) (List.mem_append_right _ (List.mem_append_right _ (mem_pinsAt hb e)))).2.1⟩
   cases ok with
   |false=>
    rw[if_neg Bool.false_ne_true]at q7⊢
    obtain⟨m',hm,w7⟩:=hNN _ _ _ q7
    exact⟨m',hm,i+1,ys,its,k,σ6,H7,I7.unpinned,rv,(back I7).1,(back I7).2,w7⟩
   |true=>
    rw[if_pos rfl]at q7⊢
    refine thn (he _ _ _ _ _ s7 σ6 H7 _ I7 q7) fun y s8 xq1=>?_
    obtain⟨v8,H8,I8,r8,q8⟩:=xq1
    obtain⟨m',hm,w8⟩:=hNN _ _ _ q8
    have pD8:=I8.pin _ (List.mem_append_right _ (List.mem_append_left _ (.head _)))
    have hl:=rv.length
    refine wpAny_list_append_plain ⟨k,pD8.1⟩ (fun h9 pl9 sb9=>?_) (by rw[List.size_toArray];omega)
    obtain⟨k9,e9⟩:=pl9
    have e9':h9.get? s2.heap.objs.size=some {cls:= .type "list",data:= .seq (List.toArray (its++[y])) k9}:=by rw[e9];simp
    have I8':Inv (cxBlk X scope cl G.objs.size N fp s2 H2) (pinsAt fp s5.heap) σ6 H8 s8:=I8.pins_of fun p hp=>I8.pin p (List.mem_append_right _ (List.mem_append_right _ hp))
    have I9:Inv (cxBlk X scope cl G.objs.size N fp s2 H2) (pinsAt fp s5.heap) σ6 H8 {s8 with heap:=h9}:=I8'.turned (it:=s2.heap.objs.size) (t':=s8.toks) (fun b o hb e=>sb9.extBut b o hb e) pD8.2.1 pD8.2.2.1 (.inr (Nat.le_refl _))
     (fun x c e z=>by
      obtain⟨vc,oc,hoc,hd⟩:=I8.cell x c e
      rw[z,pD8.1]at hoc
      cases hoc
      cases hd)
     fun p hp z=>by
      have hp':p∈pinsAt fp s5.heap:=by simpa[cxBlk]using hp
      obtain⟨q1,q2⟩:=of_pinsAt hp'
      obtain⟨ob,eb,_⟩:=T.obj _ _ st2 p.1 q1
      exact Nat.lt_irrefl _ (by have:=Heap.lt_size eb;rw[z]at this;exact this)
    have hk9:∀b∈fp,∀o,s8.heap.get? b=some o->h9.get? b=some o:=fun b hb o e=>sb9.extBut b o (fun z=>by
     obtain⟨ob,eb,_⟩:=T.obj _ _ st2 b hb
     exact Nat.lt_irrefl _ (by have:=Heap.lt_size eb;rw[z]at this;exact this)) e
    refine⟨m',hm,i+1,ys++[v8],its++[y],k9,σ6,H8,I9.pins_of fun p hp=>?_,rv.append (.cons r8 .nil),T.keep _ _ _ (back I8).1 hk9,(back I8).2,w8⟩
    have e:p=(s2.heap.objs.size,{cls:= .type "list",data:= .seq (List.toArray (its++[y])) k9}):=by simpa using hp
    subst e
    exact⟨e9',pD8.2.1,pD8.2.2.1,pD8.2.2.2.1,fun v z=>nomatch z⟩
 exact codeAny_compStart_list (loop _ rfl) (T.self _ 0 _ _ _ (T.keep _ _ _ st2 fun b _ o e=>old b o e) (loop _ rfl))
theorem lc_tup{K:PySem.W.Frag}{a:Addr}{xs:List V}{g:TG}{tt:TT}{te:TE}{σ:St}{H:Hp}{Q:VK}(Pv:Nat->List V->St->Hp->Prop)(hz:xs.length<=sizeLine)(h0:Pv 0 [] σ H)(hl:∀i ys σ H,i<=xs.length->Pv i ys σ H->SqT K H a xs/\ys.length<=i)
  (hs:∀i x ys σ H,xs[i]?=some x->Pv i ys σ H->g x σ H fun σ3 H3=>tt σ3 H3 fun b H4=>if b=true then te σ3 H4 fun v H5=>Pv (i+1) (ys++[v]) σ3 H5 else Pv (i+1) ys σ3 H4)
  (hd:∀ys σ H,Pv xs.length ys σ H->∀p,H p=none->Q (.ref p) (upd H p (.lst ys))):
  ∃W:Nat->Nat->List V->St->Hp->Prop,(∃m,W 0 m [] σ H)/\∀i m ys σ' H',W i m ys σ' H'->
   ((Itt K a).stop i H'/\ys.length<=sizeLine/\∀p,H' p=none->Q (.ref p) (upd H' p (.lst ys)))\/
   ((Itt K a).go i H'/\ys.length<sizeLine/\∃N:List V->St->Hp->Prop,(∀zs σ2 H2,N zs σ2 H2->∃m',m'<m/\W (i+1) m' zs σ2 H2)/\∀x H2,(Itt K a).yld i H' x H2->g x σ' H2 fun σ3 H3=>tt σ3 H3 fun b H4=>
    if b=true then te σ3 H4 fun v H5=>N (ys++[v]) σ3 H5 else N ys σ3 H4):=by
 refine⟨fun i m ys σ H=>m=xs.length-i/\i<=xs.length/\Pv i ys σ H,⟨xs.length,by simp,Nat.zero_le _,h0⟩,?_⟩
 rintro i m ys σ H ⟨rfl,hi,p⟩
 obtain⟨q,ql⟩:=hl i ys σ H hi p
 by_cases hlt:i<xs.length
 ·refine .inr ⟨⟨xs,xs[i],q,by simp[hlt]⟩,by omega,Pv (i+1),fun zs σ' H' p'=>⟨xs.length-(i+1),by omega,rfl,hlt,p'⟩,fun x H' y=>?_⟩
  obtain⟨e,y⟩:=y
  subst e
  exact hs i x ys σ _ (y xs q) p
 ·have e:i=xs.length:=by omega
  subst e
  exact .inl ⟨⟨xs,q,Nat.le_refl _⟩,by omega,hd ys σ H p⟩
def TabE(qual:Str)(c':Addr):HO:= .ext fun h=>h.CodeRec (.ref c') qual
def TabI(P:Addr)(pos:Pos)(qual:Str)(H:Hp):Prop:=
 H P=some (.tbl #[])\/∃c',H P=some (.tbl #[rawInt pos.line,rawInt pos.col,.ref c'])/\H c'=some (TabE qual c')
structure Gr(P:Addr)(pos:Pos)(qual:Str)(H H':Hp):Prop where
 keep:∀b o,H b=some o->b≠P->H' b=some o
 tab:TabI P pos qual H'
theorem Gr.trans{P:Addr}{pos:Pos}{qual:Str}{H H1 H2:Hp}(a:Gr P pos qual H H1)(b:Gr P pos qual H1 H2):Gr P pos qual H H2:=⟨fun c o e n=>b.keep c o (a.keep c o e n) n,b.tab⟩
theorem TabI.same{P}{pos}{qual}{H H'}(h:TabI P pos qual H)(s:Same H H'):TabI P pos qual H':=by
 rcases h with h|⟨a,c,b⟩
 ·exact .inl (s _ _ h)
 ·exact .inr ⟨a,s _ _ c,s _ _ b⟩
theorem Gr.same{P}{pos}{qual}{H H1 H2}(a:Gr P pos qual H H1)(b:Same H1 H2):Gr P pos qual H H2:=⟨fun c o e n=>b c o (a.keep c o e n),a.tab.same b⟩
section
variable{X:Cx}{pins:List (Addr×Obj)}{σ:St}{H:Hp}{s:Shared}{A:Around}{E:Value->Shared->Prop}{a kS:Addr}{b:Bool}{vs:List Value}{kz:List Int}{keys:Array Value}{e e1:Nat}{P:PySem.Fin->Shared->Prop}
theorem Inv.track{D:Addr}{o:HO}(I:Inv X pins σ H s)(f:FpOk X pins H D)(hD:X.s₀.heap.objs.size<=D)(new:ObjOk X.prog X.w (upd H D o) s.heap D o):Inv X pins σ (upd H D o) s:=by
 have a:∀c u,H c=some u->c≠D:=fun c u q=>ne_of_none q f.1
 refine⟨I.ok,I.os,I.bare,⟨I.base.keep,I.base.slot,fun c b q n j=>?_,I.base.there,fun c g q=>?_,fun c b u q=>?_,fun c i q=>?_⟩,I.loc,I.cell,?_,fun x c q=>?_,fun p e=>?_,fun c u q=>?_,I.len⟩
 ·rw[upd_ne (Nat.ne_of_lt (Nat.lt_of_lt_of_le (Heap.lt_size q) hD))]
  exact I.base.free c b q n j
 ·have z:=I.base.tups c g q
  rw[upd_ne (a c _ z)];exact z
 ·have z:=I.base.frzs c b u q
  rw[upd_ne (a c _ z)];exact z
 ·obtain⟨_,z⟩:=I.base.tbls c i q
  exact⟨_,by rw[upd_ne (a c _ z)];exact z⟩
 ·rw[upd_ne (Ne.symm f.2.1)];exact I.free
 ·rw[upd_ne (f.2.2.2.2.1 x c q)];exact I.freeC x c q
 ·obtain⟨m,k,l⟩:=I.pin p e
  exact⟨m,by rw[upd_ne (f.2.2.2.2.2 p e)];exact k,l⟩
 ·by_cases h:c=D
  ·subst h;rw[upd_same]at q;cases q;exact new
  ·rw[upd_ne h]at q
   exact(I.hok c u q).stay (fun _ _ _ r=>r) (fun d r=>by rw[upd_ne (a d _ r)];exact r) fun d g r=>by rw[upd_ne (a d _ r)];exact r
end
def only1(R:V->Hp->Prop):List V->Hp->Prop
 |[x],H=>R x H
 |_,_=>False
theorem only1_of{R}:∀{vs}{H},only1 R vs H->∃x,vs=[x]/\R x H
 |[x],_,h=>⟨x,rfl,h⟩
 |[],_,h=>h.elim
 |_::_::_,_,h=>h.elim
section
variable{X:Cx}
theorem call_isinst:CallR X (.builtin "isinstance") (fun xs H Q=>∃x n t b,xs=[x,.ty n]/\TyOf X.K H x t/\PySem.W.kitOne X.K t (.type n)=some b/\Q (.bl b) H):=by
 intro _ s σ H xs _ Q I r h
 obtain⟨x,n,t,b,rfl,ty,e,q⟩:=h
 obtain⟨u,_,rfl,d,a⟩:=vals2 r
 cases a
 exact isinst_ok I d ty e fun c=>⟨.bl b,H,I.tok c,rfl,q⟩
theorem bools_of{bs}:∀{us},Vals (bs.map V.bl) us->PyProof.Rows.LSm.BoolsAre us bs:=by
 induction bs with
 |nil=>intro us r;cases r;exact .nil
 |cons b bs d=>
  intro us r
  cases r with
  |cons h t=>
   cases h
   exact .cons b (d t)
theorem Inv.big{pins}{σ:St}{H:Hp}{s:Shared}(I:Inv X pins σ H s):sysModules<s.heap.objs.size:=Nat.lt_trans (by decide) ((I.mod.glob.keeps I.bk).lt)
theorem dk_empty{P}{w}{H}(h:Heap)(hb:sysModules<h.objs.size):ObjOk P w H (h.push {cls:= .type "dict",data:= .dict #[]}) h.objs.size (.dK []):=
 ⟨Nat.zero_le _,beq_eq_false_iff_ne.mpr (Ne.symm (Nat.ne_of_lt hb)),[],.nil,Heap.DictOf.new h⟩
def tDNewK:TE:=fun _ H Q=>∀p,H p=none->Q (.ref p) (upd H p (.dK []))
theorem pe_dnewK{pos}:PE X (.Dict [] [] pos) tDNewK:=fun _ s σ H Q I h=>
 wpAny_Dict_empty ⟨.ref s.heap.objs.size,_,I.laid (fun _ _ q=>Heap.get?_push_of_some _ q) (Nat.le_refl _) (dk_empty s.heap I.big),rfl,h _ (I.hok.fresh (Nat.le_refl _))⟩
inductive rCatT0(K:PySem.W.Frag)(x:V)(y:V)(H:Hp)(Q:VK):Prop
 |mk (a b ys:_) (_:x= .ref a) (_:y= .ref b) (_:SqT K H a []) (_:SqT K H b ys) (_:Q (.ref b) H)
theorem op_catT0:OpR X (binaryOp .Add) (rCatT0 X.K):=by
 intro _ s σ H x y v u Q I m t h
 obtain⟨a,b,_,rfl,rfl,l,o,q⟩:=h
 cases m
 cases t
 obtain⟨_,z,p,_⟩:=I.tuple l
 obtain⟨_,_,w,_⟩:=I.tuple o
 have k:=z.nil_iff.mpr rfl
 subst k
 obtain⟨⟨_,B,_,A⟩,g,i,n,j⟩:=id p
 obtain⟨⟨_,_,data2,_⟩,d,f,r,e⟩:=id w
 subst i j f e
 exact concat_meets ⟨_,g,rfl⟩ ⟨_,d,rfl⟩ noFill_tuple_add seq_tuple_add PySem.F.slot_tuple_add PySem.F.entry_tuple_add (PySem.F.args_tuple_add_2 _ _)
   (tuple_addW0 a b _ _ n r B _ A _ (by simp)) ⟨g,d,⟨.ref b,H,I,rfl,q⟩⟩
theorem vals_of_get:∀{xs}{us},xs.length=us.length->(∀(i:Nat) x u,xs[i]?=some x->us[i]?=some u->RelV x u)->Vals xs us
 |[],[],_,_=> .nil
 |[],_::_,h,_=>by simp at h
 |_::_,[],h,_=>by simp at h
 |x::xs,u::us,h,k=> .cons (k 0 x u rfl rfl) (vals_of_get (by simpa using h) fun i y w b a=>k (i+1) y w (by simpa using b) (by simpa using a))
theorem call_all(hc:X.calm=true):CallR X (.builtin "all") (fun xs H Q=>∃p,∃bs:List _,xs=[.ref p]/\SqL X.K H p (bs.map V.bl)/\Q (.bl (bs.all id)) H):=by
 intro _ s σ H xs _ Q I r h
 obtain⟨p,bs,rfl,n,q⟩:=h
 obtain⟨u,rfl,z⟩:=vals1 r
 cases z
 obtain⟨l,k,x,_⟩:=I.list n
 have g:=x.isList
 refine call_all_walk (wpAny_pyIter_list g ⟨_,_,_,_,_,_,fun i=>(bs[i]?).getD true,rfl,Walks.list (A:=X.A.in1) (I.ok.hd hc) _ p (Nat.ne_of_lt (show p<s.heap.objs.size by obtain⟨_,e,_⟩:=g;exact Heap.lt_size e)) _,
  ⟨⟨_,Heap.get?_push_size _ rfl,rfl,rfl⟩,g.push _⟩,fun i v _ _ _ w m=>?_,fun _ _ t=>?_⟩)
 ·obtain⟨b,e,rfl⟩:=(bools_of k).get i v (by simpa using w)
  simp[e,Option.getD_some]at m
  exact wpAny_truthy_bool m
 ·have e:((List.range l.toArray.size).all fun i=>(bs[i]?).getD true)=bs.all id:=by
   rw[List.size_toArray,(show l.length=bs.length by have:=k.length;simpa using this.symm),Bool.eq_iff_iff,List.all_eq_true,List.all_eq_true]
   constructor
   ·intro h b d
    obtain⟨i,j,rfl⟩:=List.getElem_of_mem d
    simp_all
   ·intro h i j
    have a:=List.mem_range.mp j
    simp[List.getElem?_eq_getElem a,Option.getD_some]
    exact h _ (List.getElem_mem a)
  rw[e]
  refine⟨.bl _,H,I.kept fun b o f=>t b o (fun y=>?_) (Heap.get?_push_of_some _ f),rfl,q⟩
  rw[List.mem_singleton.mp y]at f
  exact Nat.lt_irrefl _ (Heap.lt_size f)
theorem call_maxs(hc:X.calm=true):CallR X (.builtin "max") (fun xs H Q=>∃p,∃ns:List _,xs=[.ref p]/\(SqL X.K H p (ns.map V.int)\/SqT X.K H p (ns.map V.int))/\0<ns.length/\∀M,M∈ns->(∀a∈ns,a<=M)->Q (.int M) H):=by
 intro L s σ H xs us Q I r h
 obtain⟨p,ns,rfl,C,hne,q⟩:=h
 obtain⟨u,rfl,rx⟩:=vals1 r
 cases rx
 have J:∀(c:List _)(it:Obj),Vals (ns.map V.int) c->(∀i v,c.toArray[i]?=some v->∃t,v=Value.int (ns.getD i 0) t)->∀v y B,c.toArray[argBest (fun i j=>decide (ns.getD i 0>ns.getD j 0)) (c.toArray.size-1)]?=some v->
   (∀b o,b ∉ [s.heap.objs.size]->(s.heap.push it).get? b=some o->y.get? b=some o)->EP X L σ Q v {s with heap:=y,toks:=B}:=by
  intro c it k D v y B G F
  obtain⟨t,rfl⟩:=D _ _ G
  have m:c.length=ns.length:=by have:=k.length;simpa using this.symm
  obtain⟨h1,h2⟩:=argBest_gt (fun i=>ns.getD i 0) (c.toArray.size-1)
  rw[List.size_toArray,m]at h1 h2
  rw[List.size_toArray,m]
  refine⟨.int _,H,I.kept fun b o z=>F b o (fun hm=>?_) (Heap.get?_push_of_some _ z),⟨t,rfl⟩,q _ ?_ fun a ha=>?_⟩
  ·rw[List.mem_singleton.mp hm]at z
   exact Nat.lt_irrefl _ (Heap.lt_size z)
  ·have g:argBest (fun i j=>decide (ns.getD i 0>ns.getD j 0)) (ns.length-1)<ns.length:=by omega
   rw[List.getD_eq_getElem?_getD,List.getElem?_eq_getElem g]
   exact List.getElem_mem g
  ·obtain⟨j,hj,rfl⟩:=List.getElem_of_mem ha
   have:=h2 j (by omega)
   rw[List.getD_eq_getElem?_getD,List.getElem?_eq_getElem hj]at this
   exact this
 have d:∀c:List Value,Vals (ns.map V.int) c->∀i v,c.toArray[i]?=some v->∃t,v=Value.int (ns.getD i 0) t:=by
  intro c k i v e
  have e':c[i]?=some v:=by simpa using e
  have m:c.length=ns.length:=by have:=k.length;simpa using this.symm
  have hi:i<ns.length:=by grind
  obtain⟨u,z,r2⟩:=k.get (i:=i) (x:= .int ns[i]) (by rw[List.getElem?_map,List.getElem?_eq_getElem hi];rfl)
  rw[e']at z
  cases z
  obtain⟨t,rfl⟩:=r2
  exact⟨t,by simp_all⟩
 have N:∀c:List Value,Vals (ns.map V.int) c->0<c.toArray.size:=fun c k=>by
  have:=k.length
  rw[List.length_map]at this
  rw[List.size_toArray];omega
 rcases C with C|C
 ·obtain⟨c,k,O,hz⟩:=I.list C
  have w:=O.isList
  have g:p<s.heap.objs.size:=by obtain⟨_,e,_⟩:=w;exact Heap.lt_size e
  refine call_max_walk (wpAny_pyIter_list w ⟨s.heap.objs.size,[s.heap.objs.size,p],[s.heap.objs.size],_,_,_,_,rfl,Walks.list (A:=X.A.in1) (I.ok.hd hc) _ p (Nat.ne_of_lt g) c.toArray,⟨⟨_,Heap.get?_push_size _ rfl,rfl,rfl⟩,w.push _⟩,fun b E=>?_,N c k,CmpOf.ints_gt (fun i=>ns.getD i 0) (d c k),fun v y B G F=>J c _ k (d c k) v y B G F⟩)
  rw[Heap.size_push]
  simp[List.mem_cons,List.not_mem_nil,or_false]at E
  rcases E with rfl|rfl
  ·exact Nat.lt_succ_self _
  ·exact Nat.lt_succ_of_lt g
 ·obtain⟨c,k,O,hz⟩:=I.tuple C
  have w:=O
  have g:p<s.heap.objs.size:=by obtain⟨_,e,_⟩:=w;exact Heap.lt_size e
  refine call_max_walk (wpAny_pyIter_tuple w ⟨s.heap.objs.size,[s.heap.objs.size,p],[s.heap.objs.size],_,_,_,_,rfl,Walks.tuple (A:=X.A.in1) (I.ok.hd hc) _ p (Nat.ne_of_lt g) c.toArray,⟨⟨_,Heap.get?_push_size _ rfl,rfl,rfl⟩,w.push _⟩,fun b E=>?_,N c k,CmpOf.ints_gt (fun i=>ns.getD i 0) (d c k),fun v y B G F=>J c _ k (d c k) v y B G F⟩)
  rw[Heap.size_push]
  simp[List.mem_cons,List.not_mem_nil,or_false]at E
  rcases E with rfl|rfl
  ·exact Nat.lt_succ_self _
  ·exact Nat.lt_succ_of_lt g
end
theorem same_add{H}{d}{o}(h:H d=Option.none):Same H (upd H d o):=fun b u e=>by rw[upd_ne (ne_of_none e h)];exact e
theorem le1000{n:Nat}(h:Nat.ble n 1000=true):n<=sizeLine:=by
 have:=Nat.le_of_ble_eq_true h
 rw[sizeLine_eq];omega
theorem leMil{n}(h:n<=100000):n<=sizeLine:=by rw[sizeLine_eq];omega
def plainE:Expr->Bool
 | .Starred _ _=>false
 |_=>true
theorem star_cons{e}{es}{env}(h:plainE e=true):starEach (e::es) env=(false,eval e env)::starEach es env:=by
 cases e<;>first|rfl|cases h
theorem star_any{env}{pos}:∀{es:List _},es.all plainE=true->(backTo pos (starEach es env)).any (·.1)=false
 |[],_=>rfl
 |e::es,h=>by
  have a:plainE e=true/\es.all plainE=true:=by simp_all
  rw[star_cons a.1]
  have b:=star_any (env:=env) (pos:=pos) a.2
  unfold backTo at b⊢
  simp_all
theorem pa_c{X}{e}{es}{te}{t}(ha:PE X e te)(hr:PA X es t)(hs:plainE e=true:=by rfl):PA X (e::es) (tCons te t):=pa_cons ha hr (star_cons hs)
structure FnE(P:Program)(w:World)(K:PySem.W.Frag)(mg:Str->Option Value)(base:Heap)(x:Str)(ps:List Str)(k:Nat)(sp:Sp):Prop where
 ex:∃f fd,FnOk P w K mg base CX0 k f fd ps sp/\mg x=some (.ref f)/\PySem.W.keepIn K (.ref f)=true/\Binds K fd ps []
theorem FnE.mono{P}{w}{K}{mg}{base}{x}{ps}{j k}{sp:Sp}(F:FnE P w K mg base x ps j sp)(h:j<=k):FnE P w K mg base x ps k sp:=
 let⟨f,c,a,b⟩:=F.ex;⟨f,c,a.mono h,b⟩
theorem pe_fn{X}{x}{ps:List _}{k}{sp}{e}{es:List _}{t}{p pos:Pos}(F:FnE X.prog X.w X.K X.mg X.base x ps k sp)(hr:Room k X.A)(ha:PA X (e::es) t)(hg:Gl X x:=by rfl)
  (hdb:(x==("__debug__":Str))=false:=by decide)(he:starEach (e::es) X.env=(false,eval e X.env)::starEach es X.env:=by rfl)(hpl:(backTo pos (starEach es X.env)).any (·.1)=false:=by rfl):
  PE X (.Call (.Name x p) (e::es) [] pos) (tCall sp [] E0 t):=
 let⟨_,_,a,b,c,d⟩:=F.ex;pe_call a hr hg b c d .nil pass0 ha hdb he hpl
theorem pe_fc{X}{x}{ps}{k}{sp}{e}{es}{t}{p pos}(F:FnE X.prog X.w X.K X.mg X.base x ps k sp)(hr:Room k X.A)(ha:PA X (e::es) t)(hg:Gl X x:=by rfl)
  (hdb:(x==("__debug__":Str))=false:=by decide)(he:plainE e=true:=by rfl)(hpl:es.all plainE=true:=by rfl):PE X (.Call (.Name x p) (e::es) [] pos) (tCall sp [] E0 t):=
 pe_fn F hr ha hg hdb (star_cons he) (star_any hpl)
def tTupS(t:TA):TE:=fun σ H Q=>t σ H fun xs H1=>Nat.ble xs.length 1000=true/\∀p H',Same H1 H'->H' p=some (.tup xs)->Q (.ref p) H'
def tLstS(t:TA):TE:=fun σ H Q=>t σ H fun xs H1=>Nat.ble xs.length 1000=true/\∀p H',Same H1 H'->H' p=some (.lst xs)->Q (.ref p) H'
def tDNewS:TE:=fun _ H Q=>∀p H',Same H H'->H' p=some (.dK [])->Q (.ref p) H'
section
variable{X:Cx}{e:Expr}{es:List Expr}{te:TE}{t:TA}{pos:Pos}
theorem OpR.weak{f}{r r'}(h:OpR X f r)(k:∀x y H Q,r' x y H Q->r x y H Q):OpR X f r':=fun _ s σ H x y v u Q I b a q=>h _ s σ H x y v u Q I b a (k _ _ _ _ q)
theorem CallR.weak{f}{r r'}(h:CallR X f r)(k:∀xs H Q,r' xs H Q->r xs H Q):CallR X f r':=fun _ s σ H xs a Q I r q=>h _ s σ H xs a Q I r (k _ _ _ q)
theorem pe_tupS{x1}(h:PA X es t):PE X (.Tuple es x1 pos) (tTupS t):=by
 refine fun a s σ H Q I g=>wpAny_Tuple_spliced (thn (h pos a s σ H _ I g) fun f d⟨_,_,c,r,z,q⟩=>⟨by rw[<-r.length];exact le1000 z,.ref d.heap.objs.size,_,c.laid (fun b u e=>Heap.get?_push_of_some _ e) (Nat.le_refl _) ?_,rfl,q _ _ (same_add (c.hok.fresh (Nat.le_refl _))) upd_same⟩)
 exact⟨le1000 z,f,r,⟨_,Heap.get?_push_size _ rfl,rfl,_,rfl⟩⟩
theorem pe_lstS(h:PA X es t):PE X (.List es pos) (tLstS t):=by
 refine fun a s σ H Q I g=>wpAny_List_spliced (thn (h pos a s σ H _ I g) fun f d⟨_,_,c,r,z,q⟩=>⟨by rw[<-r.length];exact le1000 z,.ref d.heap.objs.size,_,c.laid (fun b u e=>Heap.get?_push_of_some _ e) (Nat.le_refl _) ?_,rfl,q _ _ (same_add (c.hok.fresh (Nat.le_refl _))) upd_same⟩)
 exact⟨le1000 z,f,0,r,Heap.get?_push_size _ rfl⟩
theorem pe_dnewS:PE X (.Dict [] [] pos) tDNewS:=fun pins s σ H Q I h=>pe_dnewK pins s σ H Q I fun p hp=>h p _ (same_add hp) upd_same
inductive rCatTS(x:V)(y:V)(H:Hp)(Q:VK):Prop
 |mk (a b xs ys:_) (_:x= .ref a) (_:y= .ref b) (_:H a=some (.tup xs)) (_:H b=some (.tup ys)) (_:xs.length+ys.length<=100000) (_:∀p H',Same H H'->H' p=some (.tup (xs++ys))->Q (.ref p) H')
theorem op_catTS:OpR X (binaryOp .Add) rCatTS:=by
 intro _ s σ H x y v u Q I i d h
 obtain⟨a,b,e,g,rfl,rfl,j,c,k,q⟩:=h
 by_cases f:e=[]
 ·subst f
  exact op_catT0 _ s σ H _ _ v u Q I i d ⟨a,b,g,rfl,rfl,SqT.of j,SqT.of c,q b H (Same.refl H) c⟩
 ·refine op_catT _ s σ H _ _ v u Q I i d ⟨a,b,e,g,rfl,rfl,SqT.of j,SqT.of c,f,leMil k,fun z=>?_,fun _ p l=>q p _ (same_add l) upd_same⟩
  subst z
  exact q a H (Same.refl H) (by simp_all)
inductive rCatLS(x:V)(y:V)(H:Hp)(Q:VK):Prop
 |mk (a b xs ys:_) (_:x= .ref a) (_:y= .ref b) (_:H a=some (.lst xs)) (_:H b=some (.lst ys)) (_:xs.length+ys.length<=100000) (_:∀p H',Same H H'->H' p=some (.lst (xs++ys))->Q (.ref p) H')
theorem op_catLS:OpR X (binaryOp .Add) rCatLS:=op_cat.weak fun x y H Q⟨a,b,g,f,e,d,i,h,z,q⟩=>⟨a,b,g,f,e,d,i,h,leMil z,fun p c=>q p _ (same_add c) upd_same⟩
theorem call_tuple_ofS:CallR X (.type "tuple") (fun xs H Q=>∃p ys,xs=[.ref p]/\(H p=some (.lst ys)\/H p=some (.tup ys))/\∀l H',Same H H'->H' l=some (.tup ys)->Q (.ref l) H'):=
 call_tuple_of.weak fun xs H Q⟨p,ys,e,h,q⟩=>⟨p,ys,e,by
  rcases h with h|h
  ·exact .inl ⟨SqL.of h,fun l a=>q l _ (same_add a) upd_same⟩
  ·exact .inr ⟨SqT.of h,q p H (Same.refl H) h⟩⟩
end
def MonoE(t:TE):Prop:=∀σ H(Q Q'),(∀v H',Q v H'->Q' v H')->t σ H Q->t σ H Q'
theorem mono_var(i):MonoE (tVar i):=fun σ H Q _ k⟨v,e,q⟩=>⟨v,e,k _ _ q⟩
theorem mono_c(v):MonoE (tC v):=fun σ H Q _ k q=>k _ _ q
theorem mono_ixT{K}{ta tb}(ha:MonoE ta)(hb:MonoE tb):MonoE (tOp (rIxT K) ta tb):=fun σ H Q _ k q=>ha σ H _ _ (fun x c q=>hb σ c _ _ (fun y _⟨p,d,i,v,b,e,h,a,q⟩=>⟨p,d,i,v,b,e,h,a,k _ _ q⟩) q) q
def tLCT(K:PySem.W.Frag)(bs:List (Option Nat))(tl:TE)(g:TG)(tt:TT)(te:TE):TE:=fun σ H Q=>tl σ H fun x H1=>∃a xs,x= .ref a/\SqT K H1 a xs/\xs.length<=100000/\∃Pv:Nat->List V->St->Hp->Prop,Pv 0 [] (bst bs σ) H1/\
 (∀i ys σ H,i<=xs.length->Pv i ys σ H->SqT K H a xs/\ys.length<=i)/\
 (∀i x ys σ H,xs[i]?=some x->Pv i ys σ H->g x σ H fun σ3 H3=>tt σ3 H3 fun b H4=>if b=true then te σ3 H4 fun v H5=>Pv (i+1) (ys++[v]) σ3 H5 else Pv (i+1) ys σ3 H4)/\
 ∀ys σ H,Pv xs.length ys σ H->∀p H',Same H H'->H' p=some (.lst ys)->Q (.ref p) H'
theorem pe_lcT{X}{scope}{cl}{N}{bs}{tg iter elt}{ifs}{pos}{tl}{g}{tt}{te}(B:Blk X scope cl N bs)(hc:X.calm=true)
  (hl:PE X iter tl)(hm:MonoE tl)(hg:∀C fp s H,PG (cxBlk X scope cl C N fp s H) tg g) (ht:∀C fp s H,PTs (cxBlk X scope cl C N fp s H) ifs tt) (he:∀C fp s H,PE (cxBlk X scope cl C N fp s H) elt te)
  (hs:∀x,foldedSetIterable iter X.env x=pure x:=by intro _;rfl):PE X (.ListComp elt [⟨tg,iter,ifs,0⟩] scope pos) (tLCT X.K bs tl g tt te):=by
 refine fun _ s σ H Q I h=>@pe_lc X _ cl N bs tg _ _ _ _ _ g tt te B hc (@pi_tup X _ _ _ hl) hg ht he hs _ s σ H Q I (hm σ H _ _ (fun x _ h=>?_) h)
 obtain⟨a,i,e,j,d,k,o,f,l,n⟩:=h
 exact⟨a,e,⟨i,j⟩,lc_tup k (leMil d) o f l fun m σ H c p b=>n m σ H c p _ (same_add b) upd_same⟩
def MonoA(t:TA):Prop:=∀σ H(Q Q'),(∀v H',Q v H'->Q' v H')->t σ H Q->t σ H Q'
theorem monoA_nil:MonoA tNil:=fun σ H Q _ k q=>k _ _ q
theorem monoA_cons{te}{tr}(ha:MonoE te)(hr:MonoA tr):MonoA (tCons te tr):=fun σ H Q _ k q=>ha σ H _ _ (fun x a q=>hr σ a _ _ (fun _ _ q=>k _ _ q) q) q
theorem lc_range{lo}{n}{g:TG}{tt:TT}{te:TE}{σ}{H}{Q:VK}(Pv:Nat->List V->St->Hp->Prop)(hz:n<=sizeLine)(h0:Pv 0 [] σ H)(hl:∀i ys σ H,i<=n->Pv i ys σ H->ys.length<=i)
  (hs:∀i ys σ H,i<n->Pv i ys σ H->g (.int (lo+i)) σ H fun σ3 H3=>tt σ3 H3 fun b H4=>if b=true then te σ3 H4 fun v H5=>Pv (i+1) (ys++[v]) σ3 H5 else Pv (i+1) ys σ3 H4)
  (hd:∀ys σ H,Pv n ys σ H->∀p,H p=none->Q (.ref p) (upd H p (.lst ys))):
  ∃W:Nat->Nat->List V->St->Hp->Prop,(∃m,W 0 m [] σ H)/\∀i m ys σ' H',W i m ys σ' H'->
   ((Itr lo n).stop i H'/\ys.length<=sizeLine/\∀p,H' p=none->Q (.ref p) (upd H' p (.lst ys)))\/
   ((Itr lo n).go i H'/\ys.length<sizeLine/\∃N:List V->St->Hp->Prop,(∀zs σ2 H2,N zs σ2 H2->∃m',m'<m/\W (i+1) m' zs σ2 H2)/\∀x H2,(Itr lo n).yld i H' x H2->g x σ' H2 fun σ3 H3=>tt σ3 H3 fun b H4=>
    if b=true then te σ3 H4 fun v H5=>N (ys++[v]) σ3 H5 else N ys σ3 H4):=by
 refine⟨fun i m ys σ H=>m=n-i/\i<=n/\Pv i ys σ H,⟨n,by simp,Nat.zero_le _,h0⟩,?_⟩
 rintro i m ys σ H ⟨rfl,c,p⟩
 have _:=hl i ys σ H c p
 by_cases a:i<n
 ·refine .inr ⟨a,by omega,_,fun zs σ' H' d=>⟨_,by omega,rfl,a,d⟩,fun x H' y=>?_⟩
  obtain⟨e,y⟩:=y
  simp_all
 ·have e:i=n:=by omega
  subst e
  exact .inl ⟨Nat.le_refl _,by omega,hd ys σ H p⟩
def tLCR(bs:List (Option Nat))(ta:TA)(g:TG)(tt:TT)(te:TE):TE:=fun σ H Q=>ta σ H fun vs H1=>∃n:Nat,vs=[.int n]/\n<=100000/\∃Pv:Nat->List V->St->Hp->Prop,Pv 0 [] (bst bs σ) H1/\
 (∀i ys σ H,i<=n->Pv i ys σ H->ys.length<=i)/\
 (∀i ys σ H,i<n->Pv i ys σ H->g (.int (0+i)) σ H fun σ3 H3=>tt σ3 H3 fun b H4=>if b=true then te σ3 H4 fun v H5=>Pv (i+1) (ys++[v]) σ3 H5 else Pv (i+1) ys σ3 H4)/\
 ∀ys σ H,Pv n ys σ H->∀p H',Same H H'->H' p=some (.lst ys)->Q (.ref p) H'
theorem pe_lcR{X}{scope}{cl}{N}{bs}{tg a elt}{ifs}{p pos' pos}{ta}{g}{tt}{te}(B:Blk X scope cl N bs)(hc:X.calm=true)
  (hgl:Gl X "range")(hmr:X.mg "range"=none)(ha:PA X [a] ta)(hm:MonoA ta)(hpl:plainE a=true)(hg:∀C fp s H,PG (cxBlk X scope cl C N fp s H) tg g) (ht:∀C fp s H,PTs (cxBlk X scope cl C N fp s H) ifs tt) (he:∀C fp s H,PE (cxBlk X scope cl C N fp s H) elt te)
  (hs:∀x,foldedSetIterable (.Call (.Name "range" p) [a] [] pos') X.env x=pure x:=by intro _;rfl):PE X (.ListComp elt [⟨tg,.Call (.Name "range" p) [a] [] pos',ifs,0⟩] scope pos) (tLCR bs ta g tt te):=by
 refine fun _ s σ H Q I h=>@pe_lc X _ cl N bs tg _ _ _ _ _ g tt te B hc (@pi_range1 X tg a ta p pos' hgl hmr ha (star_cons hpl)) hg ht he hs _ s σ H Q I (hm σ H _ _ (fun _ _ h=>?_) h)
 obtain⟨n,e,i,d,f,c,l,j⟩:=h
 exact⟨n,e,by simp,by omega,lc_range d (leMil i) f c l fun k σ H m p b=>j k σ H m p _ (same_add b) upd_same⟩
section
variable{X:Cx}
inductive rMins(K:PySem.W.Frag)(xs:List V)(H:Hp)(Q:VK):Prop
 |mk (p:_) (ns:List Int) (_:xs=[.ref p]) (_:(SqL K H p (ns.map V.int)\/SqT K H p (ns.map V.int))) (_:0<ns.length) (_:∀M,M∈ns->(∀a∈ns,M<=a)->Q (.int M) H)
theorem call_mins(hc:X.calm=true):CallR X (.builtin "min") (rMins X.K):=by
 intro pins s σ H xs us Q I r h
 obtain⟨p,g,rfl,hp,hne,q⟩:=h
 obtain⟨u,rfl,rx⟩:=vals1 r
 cases rx
 have fin:∀(c)(it),Vals (g.map V.int) c->(∀i v,c.toArray[i]?=some v->∃t,v=Value.int (g.getD i 0) t)->∀v h' tk,c.toArray[argBest (fun i j=>decide (g.getD i 0<g.getD j 0)) (c.toArray.size-1)]?=some v->
   (∀b o,b ∉ [s.heap.objs.size]->(s.heap.push it).get? b=some o->h'.get? b=some o)->EP X pins σ Q v {s with heap:=h',toks:=tk}:=by
  intro c it k hval v h' tk hP hk
  obtain⟨t,rfl⟩:=hval _ _ hP
  have hlen:c.length=g.length:=by have:=k.length;simpa using this.symm
  obtain⟨h1,h2⟩:=argBest_lt (fun i=>g.getD i 0) (c.toArray.size-1)
  rw[List.size_toArray,hlen]at h1 h2
  rw[List.size_toArray,hlen]
  refine⟨.int _,H,I.kept fun b o e2=>hk b o (fun hm=>?_) (Heap.get?_push_of_some _ e2),⟨t,rfl⟩,q _ ?_ fun a ha=>?_⟩
  ·rw[List.mem_singleton.mp hm]at e2
   exact Nat.lt_irrefl _ (Heap.lt_size e2)
  ·have m:argBest (fun i j=>decide (g.getD i 0<g.getD j 0)) (g.length-1)<g.length:=by omega
   rw[List.getD_eq_getElem?_getD,List.getElem?_eq_getElem _]
   exact List.getElem_mem m
  ·obtain⟨j,hj,rfl⟩:=List.getElem_of_mem ha
   have:=h2 j (by omega)
   rw[List.getD_eq_getElem?_getD (i:=j),List.getElem?_eq_getElem hj]at this
   exact this
 have d:∀c:List _,Vals (g.map V.int) c->∀i v,c.toArray[i]?=some v->∃t,v=Value.int (g.getD i 0) t:=by
  intro c k i v e
  have e':c[i]?=some v:=by simpa using e
  have hlen:c.length=g.length:=by have:=k.length;simpa using this.symm
  have hi:i<g.length:=by grind
  obtain⟨u,e2,r2⟩:=k.get (by rw[List.getElem?_map,List.getElem?_eq_getElem hi];rfl)
  rw[e']at e2
  cases e2
  obtain⟨t,rfl⟩:=r2
  exact⟨t,by simp_all⟩
 have pos:∀c:List Value,Vals (g.map V.int) c->0<c.toArray.size:=fun c k=>by
  have:=k.length
  rw[List.length_map]at this
  rw[List.size_toArray];omega
 rcases hp with hp|hp
 ·obtain⟨c,k,pl,hz⟩:=I.list hp
  have hl:=pl.isList
  have m:p<s.heap.objs.size:=by obtain⟨_,e,_⟩:=hl;exact Heap.lt_size e
  refine call_min_walk (wpAny_pyIter_list hl ⟨s.heap.objs.size,[s.heap.objs.size,p],[s.heap.objs.size],_,_,_,_,rfl,Walks.list (A:=X.A.in1) (I.ok.hd hc) _ p (Nat.ne_of_lt m) c.toArray,⟨⟨_,Heap.get?_push_size _ rfl,rfl,rfl⟩,hl.push _⟩,fun b hb=>?_,pos c k,CmpOf.ints_lt (fun i=>g.getD i 0) (d c k),fun v h' tk hP hk=>fin c _ k (d c k) v h' tk hP hk⟩)
  rw[Heap.size_push]
  simp[List.mem_cons,List.not_mem_nil,or_false]at hb
  rcases hb with rfl|rfl
  ·exact Nat.lt_succ_self _
  ·grind
 ·obtain⟨c,k,pl,hz⟩:=I.tuple hp
  have hl:=pl
  have m:p<s.heap.objs.size:=by obtain⟨_,e,_⟩:=hl;exact Heap.lt_size e
  refine call_min_walk (wpAny_pyIter_tuple hl ⟨s.heap.objs.size,[s.heap.objs.size,p],[s.heap.objs.size],_,_,_,_,rfl,Walks.tuple (A:=X.A.in1) (I.ok.hd hc) _ p (Nat.ne_of_lt m) c.toArray,⟨⟨_,Heap.get?_push_size _ rfl,rfl,rfl⟩,hl.push _⟩,fun b hb=>?_,pos c k,CmpOf.ints_lt (fun i=>g.getD i 0) (d c k),fun v h' tk hP hk=>fin c _ k (d c k) v h' tk hP hk⟩)
  rw[Heap.size_push]
  simp[List.mem_cons,List.not_mem_nil,or_false]at hb
  rcases hb with rfl|rfl
  ·exact Nat.lt_succ_self _
  ·grind
end
end L2
namespace PySem
open Sem (wp)
open AutoSeq1 (wpAny_loadPart')
section
variable{prog:Program}{w:World}{A:Around}{E:Value->Shared->Prop}{s:Shared}
theorem nextOf_tuple_item{it l}{i}{items}{x}{Q}(hit:s.heap.IsTupleIter it l i)
  (hl:s.heap.IsTuple l items)(hx:items[i]?=some x)
  (hQ:∀h',h'.IsTupleIter it l (i+1)->Heap.SameBut it s.heap h'->Q x {s with heap:=h'}):
  wpAny (model prog w) A (Builtin.SmallTypes.nextOf (.ref it)) Q E s:=by
 obtain⟨o,b,e,a⟩:=id hit
 obtain⟨_,d,_,_,c⟩:=hl
 refine wpAny_bind (wpAny_callSpecial?_slot hit.typeIs F.slot_tuple_iterator_next
  (wpAny_call_entry F.slot_tuple_iterator_next hit.typeIs F.entry_tuple_iterator_next ?_ (F.args_tuple_iterator_next_1 _)))
 show wpAny _ _ (field (.ref it) 0>>=_) _ _ s
 refine wpAny_bind (wpAny_field b a (x:= .ref l) rfl (wpAny_bind (wpAny_field b a rfl (wpAny_bind (wpAny_seqItems d c ?_)))))
 simp[Int.toNat_natCast,hx]
 exact wpAny_bind (wpAny_setField b a (by simp) (wpAny_pure ⟨x,rfl,wpAny_pure (hQ _ ⟨_,Heap.get?_update_self _ b (Obj.isFreed_of_fields (Obj.data_mapFields a _)),(Obj.cls_mapFields ..).trans e,by
  rw[Obj.data_mapFields a];simp[rawInt]⟩ (Heap.SameBut.update ..))⟩))
theorem nextOf_tuple_end{it l}{i}{items}{Q}(hh:A.handled=none)
  (hit:s.heap.IsTupleIter it l i)(hl:s.heap.IsTuple l items)(hx:items[i]?=none)
  (hE:∀h' e,Heap.ExtBut it s.heap h'->(∃o,h'.get? e=some o/\o.cls= .type "StopIteration")->E (.ref e) {s with heap:=h'}):
  wpAny (model prog w) A (Builtin.SmallTypes.nextOf (.ref it)) Q E s:=by
 obtain⟨o,c,_,b⟩:=id hit
 obtain⟨_,a,_,_,d⟩:=hl
 refine wpAny_bind (wpAny_callSpecial?_slot hit.typeIs F.slot_tuple_iterator_next
  (wpAny_call_entry F.slot_tuple_iterator_next hit.typeIs F.entry_tuple_iterator_next ?_ (F.args_tuple_iterator_next_1 _)))
 show wpAny _ _ (field (.ref it) 0>>=_) _ _ s
 refine wpAny_bind (wpAny_field c b (x:= .ref l) rfl (wpAny_bind (wpAny_field c b rfl (wpAny_bind (wpAny_seqItems a d ?_)))))
 simp[Int.toNat_natCast,hx]
 refine wpAny_bind (wpAny_rule (wpAny_bind (wpAny_setField c b (by simp) (wpAny_bind ?_))))
 refine wpAny_bind (wpAny_newObj_type (wpAny_bind (wpAny_of_eq (by first|rfl|omega) (wpAny_newObj_type (wpAny_bind (wpAny_handled ?_)) (by size_fits)))) (by size_fits))
 first|rw[hh]|rw[hh]
 exact wpAny_bind (wpAny_pure (wpAny_throw (hE _ _ (((Heap.SameBut.update ..).extBut.push _).push _) ⟨_,Heap.get?_push_size _ rfl,rfl⟩)))
end
theorem Draws.tupleD{prog}{w}{A}(hh:A.handled=none)(it l)(hne:l≠it)(items):
  Draws prog w A it [it,l] items.size (fun i v=>items[i]?=some v) (fun i h=>h.IsTupleIter it l i/\h.IsTuple l items)where
 live:=fun _ _ a=>let⟨o,d,_⟩:=a.1;⟨o,d⟩
 frame:=fun _ _ _ a e=>⟨let⟨o,d,r⟩:=a.1;⟨o,e it (by simp) o d,r⟩,let⟨o,d,r⟩:=a.2;⟨o,e l (by simp) o d,r⟩⟩
 item:=fun i s Q E f a j=>nextOf_tuple_item a.1 a.2 (x:=items[i]) (by simp[f]) fun g b c=>j _ g _ (by simp[f]) ⟨b,a.2.extBut c.extBut hne⟩ c
 done:=fun s Q E a k=>nextOf_tuple_end hh a.1 a.2 (by simp) k
theorem meets_enumerate_newT(l)(items:Array _)(n:Nat)(dct:Option _)(sl:Array (Option Value)):
  Meets (Builtin.«enumerate.__new__» ⟨[.type "enumerate",.ref l],[]⟩) (fun _ R s=>s.heap.get? l=some {cls:= .type "tuple",dict:=dct,data:= .seq items n,slots:=sl}/\
   R (.ok (.ret (.ref (s.heap.push {cls:= .type "tuple_iterator",data:= .fields #[.ref l,.int 0 0]}).objs.size)))
    {s with heap:=(s.heap.push {cls:= .type "tuple_iterator",data:= .fields #[.ref l,.int 0 0]}).push {cls:= .type "enumerate",data:= .fields #[.none,.bool false,.ref s.heap.objs.size,rawInt 0,.none,.none]}}):=
 .of_wp fun _ w A R s h=>by
  obtain⟨e,g,d,f,os⟩:=s;obtain⟨a,h⟩:=h
  have _:=sub_enumerate
  have b:Heap.IsTuple (Shared.heap ⟨e,g,d,f,os⟩) l items:=⟨_,a,rfl,n,rfl⟩
  wp_walk using wpAny_loadPart' a
  refine wpAny_stack_any fun _=>wpAny_pure ?_
  split
  ·rename_i c _ _ _ _ _
   cases(c==Value.type "enumerate")
   ·wp_walk using wpAny_loadPart' a,wpAny_pyIter_tuple b
    exact⟨_,rfl,h⟩
   ·wp_walk using wpAny_loadPart' a,wpAny_pyIter_tuple b
    exact⟨_,rfl,h⟩
  ·wp_walk using wpAny_loadPart' a,wpAny_pyIter_tuple b
   exact⟨_,rfl,h⟩
section
variable{prog:Program}{w:World}{A:Around}{E:Value->Shared->Prop}{s:Shared}
theorem call_enumerate_tuple{l}{items}{Q}(hL:s.heap.IsTuple l items)
  (h:∀h',IsEnum h' (s.heap.objs.size+1) s.heap.objs.size 0 .none->h'.IsTupleIter s.heap.objs.size l 0->h'.objs.size=s.heap.objs.size+2->
   (∀b o,s.heap.get? b=some o->h'.get? b=some o)->Q (.ref (s.heap.objs.size+1)) {s with heap:=h'}):
  wpAny (model prog w) A (call (.type "enumerate") [.ref l]) Q E s:=by
 obtain⟨⟨c,i,dt,sl⟩,p,k,n,j⟩:=hL
 replace k:=k
 replace j:=j
 subst k j
 refine callType_new F.called_enumerate (by decide) (F.typeCall_enumerate_1 _) (F.newCall_enumerate_1 _) (fun obj=>F.args_object_init_2 _ _) F.entry_enumerate_new
  (meets_enumerate_newT l items n i sl) ⟨p,?_⟩
 have hz:(s.heap.push {cls:= .type "tuple_iterator",data:= .fields #[.ref l,.int 0 0]}).objs.size=s.heap.objs.size+1:=Heap.size_push ..
 rw[hz]
 have m:IsEnum ((s.heap.push {cls:= .type "tuple_iterator",data:= .fields #[.ref l,.int 0 0]}).push
   {cls:= .type "enumerate",data:= .fields #[.none,.bool false,.ref s.heap.objs.size,rawInt 0,.none,.none]}) (s.heap.objs.size+1) s.heap.objs.size 0 .none:=by
  have:=Heap.get?_push_size (s.heap.push {cls:= .type "tuple_iterator",data:= .fields #[.ref l,.int 0 0]})
   (o:={cls:= .type "enumerate",data:= .fields #[.none,.bool false,.ref s.heap.objs.size,rawInt 0,.none,.none]}) rfl
  grind
 refine⟨⟨_,m,rfl⟩,h _ m ⟨_,Heap.get?_push_of_some _ (Heap.get?_push_size _ rfl),rfl,rfl⟩ (by simp_all) fun b o x=>Heap.get?_push_of_some _ (Heap.get?_push_of_some _ x)⟩
end
end PySem
namespace L2
open PySem PySem.Spec PyProof.Rows
theorem Inv.turnedL{X}{pins}{σ:St}{H}{s}{h'}{t'}{ch:List _}(I:Inv X pins σ H s)(k:∀b o,b ∉ ch->s.heap.get? b=some o->h'.get? b=some o) (hf:∀b∈ch,FpOk X pins H b):Inv X pins σ H {s with heap:=h',toks:=t'}:=by
 have _:∀b u,H b=some u->b ∉ ch:=fun b u e z=>by rw[(hf b z).1]at e;cases e
 refine I.step (fun b d=>⟨(hf b d).2.2.2.1,(hf b d).2.1,(hf b d).2.2.2.2.1,(hf b d).2.2.2.2.2⟩) (fun b o _ _ a e _=>k b o a e) (fun b o _ _ a e _=>⟨_,k b o a e⟩) (fun _ _ _ _ n=>n)
  (fun b o a e=>⟨o,k b o a e⟩) (fun _ _ e=>e) (fun _ _ _ e=>e) (fun b _ e=>⟨#[],by rw[e];simp⟩) (fun m f=>?_) (fun b u e=>?_) I.bare
 ·obtain⟨o,h,g,i,r⟩:=f
  exact⟨o,h,g,k _ o (fun z=>(hf _ z).2.1 rfl) i,r⟩
 ·refine(I.hok b u e).stay (fun c v a q=>k c v ?_ q) (fun _ q=>q) fun _ _ q=>q
  grind
def Ite(K:PySem.W.Frag)(a:Addr):It:=
 ⟨fun i H=>∃xs x,SqT K H a xs/\xs[i]?=some x,fun i H x H'=>∃T y,x= .ref T/\H T=none/\H'=upd H T (.tup [.int i,y])/\∀xs,SqT K H a xs->xs[i]?=some y,fun i H=>∃xs,SqT K H a xs/\xs.length<=i⟩
theorem turn_enum{P}{w}{K}{elts}{x1}{pos}(a e it)(hne:e≠it):
  Turn P w K (.Tuple elts x1 pos) (Ite K a) [e,it] e (fun i h=>(∃old,IsEnum h e it i old)/\h.IsTupleIter it a i)where
 mem:=by simp
 obj:=fun i h st b c=>by
  obtain⟨⟨old,d⟩,o,l,hc,hd⟩:=st
  rcases List.mem_cons.mp c with rfl|c
  ·exact⟨_,d,fun v z=>nomatch z⟩
  ·grind
 keep:=fun i h h' st k=>by
  obtain⟨⟨old,d⟩,o,l,r⟩:=st
  exact⟨⟨_,k e (by simp) _ d⟩,o,k it (by simp) o l,r⟩
 item:=by
  intro X hP hw hK hc i pins s σ H E I y st hg
  subst hP hw hK
  obtain⟨xs,x,hq,hx⟩:=hg
  obtain⟨t,rv,p,hz⟩:=I.tuple hq
  obtain⟨u,hu,ru⟩:=rv.get hx
  obtain⟨⟨old,d⟩,g⟩:=st
  have fe:=y e (by simp)
  have ht:=p
  have hlt:i<t.toArray.size:=by
   rw[List.size_toArray]
   exact(List.getElem?_eq_some_iff.mp hu).1
  have hai:a≠it:=fun z=>by
   obtain⟨o,l,h1,_⟩:=ht
   obtain⟨o',j,h2,_⟩:=g
   rw[z,j]at l
   cases l
   rw[h2]at h1
   exact absurd (Value.type.inj h1) (by decide)
  have hae:e≠a:=fun z=>by
   obtain⟨o,l,h1,_⟩:=ht
   have m:s.heap.get? e=_:=d
   rw[z,l]at m
   cases m
   exact absurd (Value.type.inj h1) (by decide)
  refine wpAny_pyNext_enum_itemD (Draws.tupleD (by simp[I.ok.hd hc]) it a hai _) d ⟨g,ht⟩ hlt hne (by simp_all) fun x' h' tk hP l hs' hT hsz hk=>?_
  have ex:x'=u:=by
   simp_all
  subst ex
  refine⟨_,rfl,wpAny_letOwnedTupleGo_enum l fun h2 he2 sb=>?_⟩
  have hn:=I.hok.fresh (Nat.le_refl _)
  have A:=Nat.ne_of_gt (Heap.lt_size d)
  refine⟨.ref s.heap.objs.size,_,(Inv.turnedL (ch:=[e]) (show Inv X _ σ H _ from I.turnedL (ch:=[e,it]) (fun b o c q=>hk b o (fun z=>c (by simp[z])) (fun z=>c (by simp[z])) q) fun b c=>y b c) (fun b o c q=>(sb.2 b (fun z=>c (by simp[z]))).trans q) fun b c=>by rw[List.mem_singleton.mp c];exact fe).track (I.fpOk (Nat.le_refl _) hn) I.sz ?_,rfl,⟨_,x,rfl,hn,rfl,fun ys hy=>by rw[I.tuple_inj hy hq];exact hx⟩,⟨⟨x',by simpa using he2⟩,?_⟩,fun b c=>?_⟩
  ·exact⟨le1000 rfl,[.int i tk,x'],.cons ⟨tk,rfl⟩ (.cons ru .nil),⟨_,((sb.2 _ A).trans hT),rfl,_,rfl⟩⟩
  ·obtain⟨o,j,r⟩:=hs'.1
   exact⟨o,(sb.2 _ (Ne.symm hne)).trans j,r⟩
  ·rcases List.mem_cons.mp c with rfl|c
   ·rw[upd_ne (Ne.symm A)];exact fe.1
   ·rw[List.mem_singleton.mp c,upd_ne]
    ·exact(y it (by simp)).1
    ·obtain⟨o,j,_⟩:=g
     exact Nat.ne_of_lt (Heap.lt_size j)
 done:=by
  intro X hP hw hK hc i pins s σ H E I y st hg
  subst hP hw hK
  obtain⟨xs,hq,hx⟩:=hg
  obtain⟨t,rv,p,hz⟩:=I.tuple hq
  obtain⟨⟨old,d⟩,g⟩:=st
  have hl:=rv.length
  have hT:s.TypeIs (.ref e) "enumerate":=⟨_,d,rfl⟩
  unfold pyNext
  refine wpAny_bind (wpAny_attempt (wpAny_callSpecial?_slot (name:=Str.ofString "__next__") hT F.slot_enumerate_next
   (wpAny_call_entry F.slot_enumerate_next hT F.entry_enumerate_next ?_ (F.args_enumerate_next_1 _))))
  show wpAny _ _ (field (.ref e) 2>>=_) _ _ _
  refine wpAny_bind (wpAny_field d rfl (x:= .ref it) rfl (wpAny_bind (nextOf_tuple_end (by simp[I.ok.hd hc]) g p (by simp;omega) fun h' x m hx'=>?_)))
  obtain⟨o,l,hc'⟩:=hx'
  exact wpAny_bind (wpAny_isInstance (T:="StopIteration") (b:=true) ⟨o,l,hc'⟩ isSubtype_stop (wpAny_pure ⟨rfl,I.turnedL (t':=s.toks) (ch:=[it]) (fun b o c q=>m b o (fun z=>c (by simp[z])) q) fun b c=>by rw[List.mem_singleton.mp c];exact y it (by simp)⟩))
 self:=fun _ _ _ _ _ st h=>by
  obtain⟨⟨old,d⟩,_⟩:=st
  exact wpAny_pyIter_enum d h
def iEnum(K:PySem.W.Frag)(ta:TA):TI:=fun σ H R=>ta σ H fun vs H1=>∃a,vs=[.ref a]/\(∃xs,SqT K H1 a xs)/\R (Ite K a) H1
theorem boot_enum:bootBuiltins "enumerate"=some (.type "enumerate"):=by decide+kernel
theorem pi_enum{X}{elts}{x1}{tpos}{a}{ta}{p pos}(hg:Gl X "enumerate")(hm:X.mg "enumerate"=none)(ha:PA X [a] ta)(hpl:plainE a=true):PI X (.Tuple elts x1 tpos) (.Call (.Name "enumerate" p) [a] [] pos) (iEnum X.K ta):=by
 refine fun f s σ H R I h=>Call_ (ld_blt I hg hm boot_enum (PyProof.Rows.callWith_type1 (thn (ha pos f s σ H _ I h) fun _ j xq1=>?_) (star_cons hpl) rfl))
 obtain⟨_,v,d,o,l⟩:=xq1
 obtain⟨b,e,⟨_,m⟩,q⟩:=l
 subst e
 obtain⟨u,rfl,k⟩:=vals1 o
 cases k
 obtain⟨_,_,t,_⟩:=d.tuple m
 refine call_enumerate_tuple t fun _ i r _ n=>wpAny_pyIter_enum i ⟨_,_,_,_,v,rfl,(d.kept (t':=j.toks) n),turn_enum b _ _ (Nat.succ_ne_self _),⟨⟨.none,i⟩,r⟩,fun c g=>?_,q⟩
 rcases List.mem_cons.mp g with rfl|g
 ·exact d.fpOk (Nat.le_succ _) (d.hok.fresh (Nat.le_succ _))
 ·rw[List.mem_singleton.mp g]
  exact d.fpOk (Nat.le_refl _) (d.hok.fresh (Nat.le_refl _))
end L2
namespace SetT
open PySem PySem.SetTable
def adv(mask:Nat)(p:Probe):Probe:=
 if p.more>0 then{p with j:=p.j+1,more:=p.more-1}else
 {p with j:=(leap mask p.i p.perturb).1,more:=runEnd mask (leap mask p.i p.perturb).1-(leap mask p.i p.perturb).1,i:=(leap mask p.i p.perturb).1,perturb:=(leap mask p.i p.perturb).2}
def st0(mask:Nat)(b:Nat):Probe:={j:=b%(mask+1),more:=runEnd mask (b%(mask+1))-b%(mask+1),i:=b%(mask+1),perturb:=b,dummy:=none}
def stk(mask b:Nat):Nat->Probe
 |0=>st0 mask b
 |k+1=>adv mask (stk mask b k)
def pos(mask b k:Nat):Nat:=(stk mask b k).j
def rs(mask b:Nat):Nat->Nat×Nat
 |0=>(b%(mask+1),b)
 |n+1=>leap mask (rs mask b n).1 (rs mask b n).2
def fL(mask x:Nat):Nat:=(x*5+1)%(mask+1)
def itF(mask x:Nat):Nat->Nat
 |0=>x
 |n+1=>fL mask (itF mask x n)
def orbit(mask x:Nat):Nat->List Nat
 |0=>[]
 |n+1=>x::orbit mask (fL mask x) n
def fullB(mask:Nat):Bool:=(List.range (mask+1)).all (fun z=>(orbit mask 0 (mask+1)).contains z)&&(itF mask 0 (mask+1)==0)
theorem full7:fullB 7=true:=by decide+kernel
theorem full31:fullB 31=true:=by decide+kernel
theorem full127:fullB 127=true:=by decide+kernel
theorem full511:fullB 511=true:=by decide+kernel
def Rise(xs:Array Nat):Prop:=∀i j,i<j->j<xs.size->xs.getD i 0<xs.getD j 0
structure SetOk(t:SetTable)(es:Array (Int×Value)):Prop where
 full:fullB t.mask=true
 odd:t.mask%2=1
 nod:t.dummies=#[]
 rise:Rise t.place
 le:∀(i v:Nat),t.place[i]?=some v->v<t.mask+1
 size:t.place.size=es.size
 path:∀(i v:Nat)(e:Int×Value),t.place[i]?=some v->es[i]?=some e->∃k,pos t.mask (bits e.1) k=v/\∀k',k'<k->∃i':Nat,t.place[i']?=some (pos t.mask (bits e.1) k')
variable{t:SetTable}{es:Array (Int×Value)}
end SetT
namespace SetT
open PySem PySem.SetTable PySem.Spec PyProof.Rows
variable{prog:Program}{w:World}{N:Addr->Prop}{A:Around}{E:Value->Shared->Prop}{s:Shared}
abbrev IsP(prog:Program)(w:World)(h:Heap)(k:List Int)(b:Addr):Prop:=IsTupleKey (intKind prog w) h k b
abbrev hk(prog:Program)(w:World)(k:List Int):Int:=(tupleKind (intKind prog w)).hash k
def EntK(prog:Program)(w:World)(N:Addr->Prop)(h:Heap)(e:Int×Value)(k:List Int):Prop:=∃b,(e.2= .ref b/\N b)/\IsP prog w h k b/\e.1=hk prog w k
theorem EntK.inj(x:EntK prog w N h e k)(y:EntK prog w N h e k'):k=k':=by
 obtain⟨b,⟨c,_⟩,p,_⟩:=x
 obtain⟨_,⟨a,_⟩,d,_⟩:=y
 rw[c]at a
 cases a
 exact p.inj d
variable{prog:Program}{w:World}{N:Addr->Prop}{A:Around}{E:Value->Shared->Prop}{s:Shared}
variable{prog:Program}{w:World}{N:Addr->Prop}{A:Around}{E:Value->Shared->Prop}{s:Shared}
def Mk(m:Nat):Prop:=m=7\/m=31\/m=127\/m=511
theorem Mk.full(h:Mk m):fullB m=true/\m%2=1:=by
 rcases h with rfl|rfl|rfl|rfl
 ·exact⟨full7,rfl⟩
 ·exact⟨full31,rfl⟩
 ·exact⟨full127,rfl⟩
 ·exact⟨full511,rfl⟩
theorem IsP.same{k}{a b}{o}{es}{ep}{t}(x:IsP prog w h k b)(ho:h.get? a=some o)(hd:o.data= .set es ep t)(hs:Heap.SameBut a h h'):IsP prog w h' k b:=by
 obtain⟨i,_,n,c,f,e,g⟩:=x
 have d:b≠a:=by
  grind
 exact⟨i,_,n,(hs.2 b d).trans c,f,e,g⟩
theorem EntK.same{e}{k}{a}{o}{es}{ep}{t}(x:EntK prog w N h e k)(ho:h.get? a=some o)(hd:o.data= .set es ep t)(hs:Heap.SameBut a h h'):EntK prog w N h' e k:=
 let⟨b,c,p,d⟩:=x;⟨b,c,p.same ho hd hs,d⟩
variable{prog:Program}{w:World}{A:Around}{E:Value->Shared->Prop}{s:Shared}
end SetT
namespace PySem
open Sem(wp)
open PyProof.Rows
section
variable{prog:Program}{w:World}{A:Around}{R:Result->Shared->Prop}{I:Addr}{fp wr:List Addr}{n:Nat}{P:Nat->Value->Prop}{St:Nat->Heap->Prop}{d:Value}
theorem maxD_loop(W:Walks prog w A.in1 I fp wr n P St)(bt)(hcmp:CmpOf prog w A.in1 .Gt P bt)(S)(hSf:S ∉ fp):
  ∀(k j)(s)(vb)(c),n-(j+1)=k->j+1<=n->St (j+1) s.heap->P (argBest bt j) vb->
  s.heap.get? S=some {cls:= .type "list",dict:=none,data:= .seq #[vb,vb] c,slots:=#[]}->
  (∀v h' tk,P (argBest bt (n-1)) v->(∀b o,b ∉ wr->b≠S->s.heap.get? b=some o->h'.get? b=some o)->R (.ok (.ret v)) {s with heap:=h',toks:=tk})->
  codeAny (model prog w) A (.builtin "max.loop" ⟨[.ref I,.none,.ref S],[("default",d)]⟩) R s:=by
 have hSw:=fun h=>hSf (W.sub _ h)
 have hname:(toString "max"++toString ".loop")="max.loop":=by decide
 intro k
 induction k with
 |zero=>
  intro j s vb c hk hj hst hPb hS hR
  have hin:j+1=n:=by omega
  refine codeAny_builtin F.entry_max_loop (wpAny_bind (wpAny_seqItems hS rfl (wpAny_bind (wpAny_tryCatch (W.done s _ _ (hin▸hst) fun h' tk f=>?_)))))
  have l:=f S _ hSw hS
  refine wpAny_bind (wpAny_updateSeq l rfl (wpAny_bind (wpAny_letGo (wpAny_pure (hR vb _ tk (by rw[<-hin];exact hPb) fun b o a i e=>(Heap.get?_update_other _ _ (Ne.symm i)).trans (f b o a e))))))
 |succ k ih=>
  intro j s vb c hk hj hst hPb hS hR
  have hlt:j+1<n:=by omega
  refine codeAny_builtin F.entry_max_loop ?_
  rw[Around.under_plainId F.plain_max_loop _]
  refine wpAny_bind (wpAny_seqItems hS rfl (wpAny_bind (wpAny_tryCatch (W.item (j+1) s _ _ hlt hst fun v h' tk hP hst' f=>?_))))
  have l:=f S _ hSw hS
  show wpAny _ A.in1 (tryCatch (holding [v,v] (richCompare .Gt v vb>>=_)) _>>=_) _ _ _
  refine wpAny_bind (wpAny_tryCatch (wpAny_holding (wpAny_bind (hcmp (j+1) (argBest bt j) v vb _ _ _ hP hPb (wpAny_bind (wpAny_holding (wpAny_truthy_bool (wpAny_bind (wpAny_letGo (wpAny_pure ?_))))))))))
  cases hb:bt (j+1) (argBest bt j)with
  |true=>
   simp[if_true]
   refine wpAny_bind (wpAny_updateSeq l rfl (wpAny_bind (wpAny_letGo ?_)))
   rw[hname]
   refine wpAny_pure ⟨plainId_quiet F.plain_max_loop _,ih (j+1) _ v _ (by omega) hlt (W.frame _ _ _ hst' fun b hbf o e=>?_) (by simp[argBest,hb,if_true];exact hP) (Heap.get?_update_self _ l rfl)
    fun v' h'' tk'' hP' hk''=>?_⟩
   ·exact(Heap.get?_update_other _ _ (fun h:S=b=>hSf (by rw[h];exact hbf))).trans e
   ·exact hR v' h'' tk'' hP' fun b o a i e=>hk'' b o a i ((Heap.get?_update_other _ _ (Ne.symm i)).trans (f b o a e))
  |false=>
   simp[Bool.false_eq_true,if_false]
   refine wpAny_bind (wpAny_letGo ?_)
   rw[hname]
   exact wpAny_pure ⟨plainId_quiet F.plain_max_loop _,ih (j+1) _ vb c (by omega) hlt hst' (by simp[argBest,hb,Bool.false_eq_true,if_false];exact hPb) l fun v' h'' tk'' hP' hk''=>(hR v' h'' tk'' hP' fun b o a i e=>hk'' b o a i (f b o a e))⟩
theorem maxD_first(W:Walks prog w A.in1 I fp wr n P St)(bt)(hcmp:CmpOf prog w A.in1 .Gt P bt)(S)(hSf:S ∉ fp)(hn:0<n){s}{c}(hst:St 0 s.heap)
  (hS:s.heap.get? S=some {cls:= .type "list",dict:=none,data:= .seq #[] c,slots:=#[]})
  (hR:∀v h' tk,P (argBest bt (n-1)) v->(∀b o,b ∉ wr->b≠S->s.heap.get? b=some o->h'.get? b=some o)->R (.ok (.ret v)) {s with heap:=h',toks:=tk}):
  codeAny (model prog w) A (.builtin "max.loop" ⟨[.ref I,.none,.ref S],[("default",d)]⟩) R s:=by
 refine codeAny_builtin F.entry_max_loop (wpAny_bind (wpAny_seqItems hS rfl (wpAny_bind (wpAny_tryCatch (W.item 0 s _ _ hn hst fun v h' tk t i g=>?_)))))
 have j:=g S _ (fun h=>hSf (W.sub _ h)) hS
 show wpAny _ _ (updateSeq S (fun _=>#[v,v])>>=_) _ _ _
 refine wpAny_bind (wpAny_updateSeq j rfl ?_)
 refine wpAny_pure ⟨plainId_quiet F.plain_max_loop _,maxD_loop W bt hcmp S hSf _ 0 _ v _ rfl hn (W.frame _ _ _ i fun b p o e=>?_) t (Heap.get?_update_self _ j rfl) fun u r k q l=>?_⟩
 ·exact(Heap.get?_update_other _ _ (fun h:S=b=>hSf (by rw[h];exact p))).trans e
 ·exact hR u r k q fun b o m f e=>l b o m f ((Heap.get?_update_other _ _ (Ne.symm f)).trans (g b o m e))
theorem maxD_empty(W:Walks prog w A.in1 I fp wr n P St)(S)(hSf:S ∉ fp)(hn:n=0){s}{c}(hst:St 0 s.heap)
  (hS:s.heap.get? S=some {cls:= .type "list",dict:=none,data:= .seq #[] c,slots:=#[]})
  (hR:∀h' tk,(∀b o,b ∉ wr->s.heap.get? b=some o->h'.get? b=some o)->R (.ok (.ret d)) {s with heap:=h',toks:=tk}):
  codeAny (model prog w) A (.builtin "max.loop" ⟨[.ref I,.none,.ref S],[("default",d)]⟩) R s:=by
 subst hn
 exact codeAny_builtin F.entry_max_loop (wpAny_bind (wpAny_seqItems hS rfl (wpAny_bind (wpAny_tryCatch (W.done s _ _ hst fun h' tk a=>(wpAny_bind (wpAny_rule (wpAny_pure (hR h' tk a)))))))))
end
section
variable{prog:Program}{w:World}{A:Around}{E:Value->Shared->Prop}{s:Shared}
theorem argsMaxD(a v):argsOk "max" ⟨[a],[(Str.ofString "default",v)]⟩:=by kernel_rfl
theorem call_maxD{x d}{Q}
  (h:wpAny (model prog w) A.in1 (pyIter x) (fun it s₂=>∃I fp wr n P St bt,it= .ref I/\Walks prog w A.in1 I fp wr n P St/\St 0 s₂.heap/\(∀b∈fp,b<s₂.heap.objs.size)/\CmpOf prog w A.in1 .Gt P bt/\
   (n=0->∀h' tk,(∀b o,b ∉ wr->s₂.heap.get? b=some o->h'.get? b=some o)->Q d {s₂ with heap:=h',toks:=tk})/\
   (0<n->∀v h' tk,P (argBest bt (n-1)) v->(∀b o,b ∉ wr->s₂.heap.get? b=some o->h'.get? b=some o)->Q v {s₂ with heap:=h',toks:=tk})) E s):
  wpAny (model prog w) A (call (.builtin "max") [x] [(Str.ofString "default",d)]) Q E s:=by
 refine kmk_tree F.kind_max F.plain_max F.entry_max (argsMaxD _ _) (wpAny_bind (wpAny_of_eq rfl (wpAny_bind (wpAny_pure (wpAny_bind (wpAny_mono h (fun it s₂ p=>?_) fun _ _ e=>e))))))
 obtain⟨I,fp,wr,n,P,St,bt,rfl,W,f,k,g,m,q⟩:=p
 refine wpAny_bind (wpAny_newObj_type ?_)
 have c:=fun r=>Nat.lt_irrefl _ (k _ r)
 rcases Nat.eq_zero_or_pos n with i|i
 ·refine wpAny_pure ⟨plainId_quiet F.plain_max_loop _,maxD_empty W s₂.heap.objs.size c i (W.frame _ _ _ f fun b _ o e=>Heap.get?_push_of_some _ e) (Heap.get?_push_size _ rfl) fun h' tk j=>?_⟩
  exact m i h' tk fun b o a e=>j b o a (Heap.get?_push_of_some _ e)
 ·refine wpAny_pure ⟨plainId_quiet F.plain_max_loop _,maxD_first W bt g s₂.heap.objs.size c i (W.frame _ _ _ f fun b _ o e=>Heap.get?_push_of_some _ e) (Heap.get?_push_size _ rfl) fun v h' tk l j=>?_⟩
  exact q i v h' tk l fun b o a e=>j b o a (Nat.ne_of_lt (Heap.lt_size e)) (Heap.get?_push_of_some _ e)
end
end PySem
namespace L2
open PySem PySem.Spec PyProof.Rows
def tMaxD(K:PySem.W.Frag)(d:Int)(ta:TE):TE:=fun σ H Q=>ta σ H fun x H1=>∃p,∃ns,x= .ref p/\SqL K H1 p (ns.map V.int)/\∀M,((ns=[]/\M=d)\/(M∈ns/\∀a∈ns,a<=M))->Q (.int M) H1
theorem boot_max:bootBuiltins "max"=some (.builtin "max"):=by decide+kernel
theorem pe_maxD{X}{a ed}{ta}{d}{p pos kpos}(hc:X.calm=true)(ha:PE X a ta)(hd:PE X ed (tC (.int d)))(hg:Gl X "max":=by rfl)(hm:X.mg "max"=none:=by rfl)(hs:starEach [a] X.env=[(false,eval a X.env)]:=by rfl):
  PE X (.Call (.Name "max" p) [a] [⟨some "default",ed,kpos⟩] pos) (tMaxD X.K d ta):=by
 refine fun pins s σ H Q I h=>wpAny_Call_Name_kw (ld_blt I hg hm boot_max (callWith_kw (thn ((pa_cons ha pa_nil hs) _ _ s σ H (only1 fun x y=>∃p,∃c:List _,x= .ref p/\SqL _ y p _/\∀M,((c=[]/\M=d)\/(M∈c/\∀a∈c,a<=M))->Q _ y) I h) fun us s1 xq1=>?_) (by rw[hs];rfl) (by rw[hs];rfl)))
 obtain⟨w,y,I1,r1,q1⟩:=xq1
 obtain⟨x1,rfl,q1⟩:=only1_of q1
 obtain⟨u1,rfl,ru⟩:=vals1 r1
 obtain⟨l,c,rfl,hp,q⟩:=q1
 cases ru
 refine wpAny_evalAll_cons (wpAny_bind (thn (hd _ s1 σ y (fun v H2=>v= .int d/\H2=y) I1 ⟨rfl,rfl⟩) fun ud C⟨v2,H2,I2,r2,e1,r⟩=>wpAny_bind (wpAny_standAt (wpAny_pure (wpAny_evalAll_nil ?_)))))
 subst e1 r
 obtain⟨td,rfl⟩:=r2
 obtain⟨w,rv,pl,hz⟩:=I2.list hp
 have hl:=pl.isList
 have f:l<C.heap.objs.size:=by obtain⟨_,e,_⟩:=hl;exact Heap.lt_size e
 have g:w.length=c.length:=by have:=rv.length;simpa using this.symm
 have m:∀i v,w.toArray[i]?=some v->∃t,v=Value.int (c.getD i 0) t:=by
  intro i v e
  have hi:i<c.length:=by grind
  obtain⟨u,r,r2⟩:=rv.get (i:=i) (x:= .int c[i]) (by simp_all)
  rw[(show w[i]?=some v by simpa using e)]at r
  cases r
  obtain⟨t,rfl⟩:=r2
  exact⟨t,by simp_all⟩
 have k:∀(it)(B:Heap),(∀b o,b ∉ [C.heap.objs.size]->(C.heap.push it).get? b=some o->B.get? b=some o)->∀b o,C.heap.get? b=some o->B.get? b=some o:=fun it B z b o r=>z b o (fun hm=>by
  rw[List.mem_singleton.mp hm]at r
  exact Nat.lt_irrefl _ (Heap.lt_size r)) (Heap.get?_push_of_some _ r)
 refine call_maxD (wpAny_pyIter_list hl ⟨_,_,_,_,_,_,_,rfl,Walks.list (A:=X.A.in1) (I2.ok.hd hc) _ l (Nat.ne_of_lt f) w.toArray,⟨⟨_,Heap.get?_push_size _ rfl,rfl,rfl⟩,hl.push _⟩,fun b hb=>?_,CmpOf.ints_gt (fun i=>c.getD i 0) m,fun hn B tk z=>?_,fun hn v B tk hP z=>?_⟩)
 ·rw[Heap.size_push]
  simp[List.mem_cons,List.not_mem_nil,or_false]at hb
  rcases hb with rfl|rfl
  ·exact Nat.lt_succ_self _
  ·exact Nat.lt_succ_of_lt f
 ·rw[List.size_toArray,g]at hn
  exact⟨.int d,_,I2.kept (t':=tk) (k _ _ z),⟨td,rfl⟩,q d (.inl ⟨List.length_eq_zero_iff.mp hn,rfl⟩)⟩
 ·obtain⟨t,rfl⟩:=m _ _ hP
  obtain⟨h1,h2⟩:=argBest_gt (fun i=>c.getD i 0) (w.toArray.size-1)
  rw[List.size_toArray,g]at h1 h2 hn
  rw[List.size_toArray,g]
  refine⟨.int _,_,I2.kept (t':=tk) (k _ _ z),⟨t,rfl⟩,q _ (.inr ⟨?_,fun a ha=>?_⟩)⟩
  ·have f:argBest (fun i j=>decide (c.getD i 0>c.getD j 0)) (c.length-1)<c.length:=by omega
   rw[List.getD_eq_getElem?_getD,List.getElem?_eq_getElem f]
   exact List.getElem_mem f
  ·obtain⟨j,hj,rfl⟩:=List.getElem_of_mem ha
   have:=h2 j (by omega)
   rw[List.getD_eq_getElem?_getD (i:=j),List.getElem?_eq_getElem hj]at this
   exact this
section
variable{X:Cx}
inductive gGetL(o:V)(i:V)(H:Hp)(Q:VK):Prop
 |mk (p xs:_) (k:Nat) (v:_) (_:o= .ref p) (_:i= .int k) (_:H p=some (.lst xs)) (_:xs[k]?=some v) (_:Q v H)
theorem get_list:PGet X gGetL:=by
 intro _ s σ H o i _ _ Q I f d h
 obtain⟨p,_,k,v,rfl,rfl,c,b,q⟩:=h
 cases f
 obtain⟨t,rfl⟩:=d
 obtain⟨_,r,e,_⟩:=I.list (SqL.of (K:=X.K) c)
 obtain⟨w,_,a⟩:=r.get b
 have _:=(List.getElem?_eq_some_iff.mp b).1
 have _:=line63
 exact wpAny_getItem_list e.isList (Int.natCast_nonneg k) (by omega) (by simp_all) ⟨v,H,I,a,q⟩
def rSetN:V->V->V->Hp->(Hp->Prop)->Prop:=fun o i v H Q=>∃p xs,∃k:Nat,o= .ref p/\i= .int k/\H p=some (.lst xs)/\k<xs.length/\Q (upd H p (.lst (xs.set k v)))
theorem set_listN:PSet X rSetN:=by
 intro _ s σ H o i v l b u Q I e f j h
 obtain⟨p,d,k,c,g,a,_,q⟩:=h
 refine set_list _ s σ H o i v l b u Q I e f j ⟨p,d,k,k,c,g,a,?_,q⟩
 unfold ixN
 simp_all
end
theorem ps_lc{X}{scope}{cl}{N}{bs}{tg iter elt}{ifs}{pos spos px}{x}{wi}{g gt}{tt}{te}(B:Blk X scope cl N bs)(hc:X.calm=true)
  (hi:PI X tg iter wi)(hg:∀C fp s H,PG (cxBlk X scope cl C N fp s H) tg g) (ht:∀C fp s H,PTs (cxBlk X scope cl C N fp s H) ifs tt) (he:∀C fp s H,PE (cxBlk X scope cl C N fp s H) elt te)
  (hgt:PG X (.Name x px) gt) (hsw:swapsWith (.ListComp elt [⟨tg,iter,ifs,0⟩] scope pos) (some (.Name x px)) spos.line X.env=pure true)
  (hs:∀x,foldedSetIterable iter X.env x=pure x:=by intro _;rfl):
  PS X (.Assign [.Name x px] (.ListComp elt [⟨tg,iter,ifs,0⟩] scope pos) spos) (tAsg (tLC bs wi g tt te) gt):=by
 intro j s σ H D I h
 rw[exec_Assign_Name_used _ _ _ _ hsw]
 refine wpAny_bind (wpAny_standAt (wpAny_bind (wpAny_bind (wpAny_mono (wpAny_comprehension_free (use:=some (assign (.Name x px) X.env)) (Q:=fun _ s'=>∃σ' O,Inv X j σ' O s'/\D.nx σ' O) rfl hs B.clos B.kind B.names (thn (hi j s σ H _ I h) fun v s1 h1=>thn h1 fun itv a h2=>?_)) (fun _ s' hq=>wpAny_pure (wpAny_pure hq)) fun _ _ e=>e))))
 obtain⟨it,fp,tn,J,H2,rfl,I2,T,t,f2,W,⟨m0,w0⟩,turn⟩:=h2
 refine wpAny_newObj_type (wpAny_newFunctionEnv B.cell (by intro y hy;simp at hy) (fun h₁ hns₁ S=>?_) B.kind)
 generalize hG:a.heap.push {cls:= .type "list",dict:=none,data:= .seq ([]:List Value).toArray}=G at hns₁ S⊢
 have hC:G.objs.size=a.heap.objs.size+1:=by rw[<-hG,Heap.size_push]
 have hDC:a.heap.objs.size≠G.objs.size:=by rw[hC];exact Nat.ne_of_lt (Nat.lt_succ_self _)
 have L:a.heap.objs.size<=G.objs.size:=by rw[hC];exact Nat.le_succ _
 have old:=fun b o e=>S.extBut b o (by rw[hC];exact Nat.ne_of_lt (Nat.lt_succ_of_lt (Heap.lt_size e))) (Heap.get?_push_of_some _ (hG▸Heap.get?_push_of_some _ e))
 have R:∀{D:Addr}{o:Obj}{O:Hp},a.heap.objs.size<=D->(∀b∈fp,O b=none)->∀b∈fp,FpOk (cxBlk X scope cl G.objs.size N fp a H2) [(D,o)] O b:=fun{D o O} hD hn b f=>by
  obtain⟨ob,eb,_⟩:=T.obj _ _ t b f
  obtain⟨_,f1,f3,f4,f5,_⟩:=f2 b f
  have ok:=B.ok I2 f2 (T.obj _ _ t) (C:=G.objs.size) L
  refine⟨hn b f,(ok.exf b f).1,ok.exfs b f,.inl f,(ok.exf b f).2,fun p hp=>?_⟩
  have e:p=(D,o):=by simpa[cxBlk]using hp
  subst e
  exact Nat.ne_of_gt (Nat.lt_of_lt_of_le (Heap.lt_size eb) hD)
 have loop:∀s₃:Shared,s₃={a with heap:=h₁,toks:=a.toks+([]:List (Str×Value)).length}->
   codeAny (model X.prog X.w) X.A (.compLoop (.ListComp elt [⟨tg,iter,ifs,0⟩] scope pos) 0 (.ref it) (.ref a.heap.objs.size) (compEnvC scope cl G.objs.size X.env))
    (compPost (model X.prog X.w) X.A X.xe (some (assign (.Name x px) X.env)) (fun _ s'=>∃σ' O,Inv X j σ' O s'/\D.nx σ' O) (.ref a.heap.objs.size) G.objs.size) s₃:=by
  rintro s₃ rfl
  refine codeAny_compLoop_go (fun n s'=>∃i P l k σ' O,Inv (cxBlk X scope cl G.objs.size N fp a H2) [(a.heap.objs.size,{cls:= .type "list",data:= .seq (List.toArray l) k})] σ' O s'/\Vals P l/\tn i s'.heap/\(∀b∈fp,O b=none)/\W i n P σ' O) ?_ m0
   ⟨0,[],[],0,bst bs σ,H2,B.inv I2 f2 (T.obj _ _ t) L old hns₁ (S.extBut _ _ hDC (Heap.get?_push_of_some _ (hG▸Heap.get?_push_size _ rfl))) (Nat.le_refl _) hDC (fun v z=>nomatch z),.nil,T.keep _ _ _ t fun b _ o e=>old b o e,fun b f=>(f2 b f).1,w0⟩
  rintro n s3 ⟨i,P,l,k,σ3,M,I3,rv,st3,fr3,w3⟩
  rcases turn i n P σ3 M w3 with⟨stop,hz,qn⟩|⟨go,hz,NN,hNN,step⟩
  ·refine thn (T.done (cxBlk X scope cl G.objs.size N fp a H2) rfl rfl rfl hc i _ s3 σ3 M (fun _ _=>False) I3 (R (Nat.le_refl _) fr3) st3 stop) fun r s4 xq1=>?_
   obtain⟨hr,I4⟩:=xq1
   subst hr
   have pD4:=I4.pin _ (List.mem_append_right _ (.head _))
   obtain⟨m4,hn4,_⟩:=I4.loc
   have k5:∀b o,b≠G.objs.size->s4.heap.get? b=some o->s4.heap.get? b=some o:=fun b o f e=>e
   have hC4:M G.objs.size=none:=I4.free
   have hok5:HOk X.prog X.w (upd M a.heap.objs.size (.lst P)) s4.heap:=fun b u e=>by
    by_cases f:b=a.heap.objs.size
    ·subst f
     rw[upd_same]at e
     cases e
     exact⟨hz,l,k,rv,(pD4.1)⟩
    ·rw[upd_ne f]at e
     have nC:∀c u',M c=some u'->c≠G.objs.size:=fun c u' q z=>by rw[z,hC4]at q;cases q
     have nD:∀c u',M c=some u'->c≠a.heap.objs.size:=fun c u' q z=>by rw[z,pD4.2.1]at q;cases q
     refine(I4.hok b u e).stay (fun c v hc' q=>k5 c v ?_ q) (fun c q=>by rw[upd_ne (nD c _ q)];exact q) fun c xs q=>by rw[upd_ne (nD c _ q)];exact q
     rcases hc' with z|z
     ·rw[z];exact nC b u e
     ·exact nC c _ z
   have E:Un (frs X.stack) fp H2 M a.heap s4.heap:=I4.base
   have neC:∀b o,a.heap.get? b=some o->b≠G.objs.size:=fun b o e=>Nat.ne_of_lt (Nat.lt_of_lt_of_le (Heap.lt_size e) L)
   have un5:Un (frs X.stack) fp H2 (upd M a.heap.objs.size (.lst P)) a.heap s4.heap:={
    keep:=fun b o e n f hx=>k5 b o (neC b o e) (E.keep b o e n f hx)
    slot:=fun b o e n f hx=>let⟨sl,q⟩:=E.slot b o e n f hx;⟨sl,k5 b _ (neC b o e) q⟩
    free:=fun b o e n hx=>by rw[upd_ne ((show∀b o,a.heap.get? b=some o->b≠a.heap.objs.size from fun b o e=>Nat.ne_of_lt (Heap.lt_size e)) b o e)];exact E.free b o e n hx
    there:=fun b o e hx=>let⟨o',q⟩:=E.there b o e hx;⟨o',k5 b _ (neC b o e) q⟩
    tups:=fun b xs e=>by rw[upd_ne (ne_of_none e (I2.hok.fresh (Nat.le_refl _)))];exact E.tups b xs e
    frzs:=fun b o u e=>by rw[upd_ne (ne_of_none e (I2.hok.fresh (Nat.le_refl _)))];exact E.frzs b o u e
    tbls:=fun b ps e=>by rw[upd_ne (ne_of_none e (I2.hok.fresh (Nat.le_refl _)))];exact E.tbls b ps e}
   have IE:Inv X j σ (upd M a.heap.objs.size (.lst P)) s4:=I2.call' (s':=s4) (I4.os) un5 hok5 I4.bare (fun b f=>by
    obtain⟨_,f1,f3,f4,f5,f6⟩:=f2 b f
    exact⟨f4,f1,f5,f6⟩)
   have hnC:(upd M a.heap.objs.size (.lst P)) G.objs.size=none:=by rw[upd_ne (Ne.symm hDC)];exact hC4
   obtain⟨_,c1,c2,c3,c4,c5⟩:FpOk X j (upd M a.heap.objs.size (.lst P)) G.objs.size:=I2.fpOk L hnC
   obtain⟨oC,es4,ep4,hoC,rC⟩:=hn4
   have IP:Inv X (j++[(G.objs.size,oC)]) σ (upd M a.heap.objs.size (.lst P)) s4:=IE.pins_of fun p hp=>by
    rcases List.mem_append.mp hp with z|z
    ·exact IE.pin p (List.mem_append_right _ z)
    ·rw[List.mem_singleton.mp z]
     exact⟨hoC,hnC,c1,c2,fun v z=>by rw[rC.1]at z;cases z⟩
   refine thn (hgt (j++[(G.objs.size,oC)]) s4 σ _ (.ref a.heap.objs.size) (.ref a.heap.objs.size) _ IP rfl (qn _ pD4.2.1)) fun _ s6 xq1=>?_
   obtain⟨σ6,H6,I6,q6⟩:=xq1
   have pC:=I6.pin (G.objs.size,oC) (List.mem_append_right _ (List.mem_append_right _ (.head _)))
   refine⟨m4,⟨oC,es4,ep4,pC.1,rC⟩,fun h7 sb7=>⟨σ6,H6,I6.unpinned.turned (it:=G.objs.size) (t':=s6.toks) (fun b o f e=>sb7.extBut b o f e) pC.2.1 c1 c3 c4 c5,q6⟩⟩
  ·refine thn (T.item (cxBlk X scope cl G.objs.size N fp a H2) rfl rfl rfl hc i _ s3 σ3 M (fun _ _=>False) I3 (R (Nat.le_refl _) fr3) st3 go) fun r s4 xq1=>?_
   obtain⟨u,hr,h4⟩:=xq1
   subst hr
   refine thn h4 fun _ s5⟨x,H5,I5,r5,y5,st5,fr5⟩=>thn (hg _ _ _ _ _ s5 σ3 H5 x u _ (I5.pinned (R (Nat.le_refl _) fr5) (T.obj _ _ st5)) r5 (step x H5 y5)) fun _ s6⟨σ6,H6,I6,q6⟩=>thn (ht _ _ _ _ _ s6 σ6 H6 _ I6 q6) fun ok s7 xq1=>?_
   obtain⟨H7,I7,q7⟩:=xq1
   have K:∀{σ8:St}{H8:Hp}{s8:Shared}{pl:List (Addr×Obj)},Inv (cxBlk X scope cl G.objs.size N fp a H2) (pl++pinsAt fp s5.heap) σ8 H8 s8->tn (i+1) s8.heap/\∀b∈fp,H8 b=none:=fun{σ8 H8 s8 pl} I8=>
    ⟨T.keep _ _ _ st5 fun b f o e=>(I8.pin (b,o) (List.mem_append_right _ (List.mem_append_right _ (mem_pinsAt f e)))).1,fun b f=>by
     obtain⟨o,e,d⟩:=T.obj _ _ st5 b f
     exact(I8.pin (b,o) (List.mem_append_right _ (List.mem_append_right _ (mem_pinsAt f e)))).2.1⟩
   cases ok with
   |false=>
    rw[if_neg Bool.false_ne_true]at q7⊢
    obtain⟨m',hm,w7⟩:=hNN _ _ _ q7
    exact⟨m',hm,i+1,P,l,k,σ6,H7,I7.unpinned,rv,(K I7).1,(K I7).2,w7⟩
   |true=>
    rw[if_pos rfl]at q7⊢
    refine thn (he _ _ _ _ _ s7 σ6 H7 _ I7 q7) fun y s8 xq1=>?_
    obtain⟨v8,H8,I8,r8,q8⟩:=xq1
    obtain⟨m',hm,w8⟩:=hNN _ _ _ q8
    have F:=I8.pin _ (List.mem_append_right _ (List.mem_append_left _ (.head _)))
    have hl:=rv.length
    refine wpAny_list_append_plain ⟨k,F.1⟩ (fun h9 pl9 sb9=>?_) (by rw[List.size_toArray];omega)
    obtain⟨k9,e9⟩:=pl9
    have I9:Inv (cxBlk X scope cl G.objs.size N fp a H2) (pinsAt fp s5.heap) σ6 H8 {s8 with heap:=h9}:=(show Inv (cxBlk X scope cl G.objs.size N fp a H2) (pinsAt fp s5.heap) σ6 H8 s8 from I8.pins_of fun p hp=>I8.pin p (List.mem_append_right _ (List.mem_append_right _ hp))).turned (it:=a.heap.objs.size) (t':=s8.toks) (fun b o f e=>sb9.extBut b o f e) F.2.1 F.2.2.1 (.inr (Nat.le_refl _))
     (fun x c e z=>by
      obtain⟨vc,oc,hoc,hd⟩:=I8.cell x c e
      rw[z,F.1]at hoc
      cases hoc
      cases hd)
     fun p hp z=>by
      obtain⟨q1,q2⟩:=of_pinsAt (show p∈pinsAt fp s5.heap by simpa[cxBlk]using hp)
      obtain⟨ob,eb,_⟩:=T.obj _ _ t p.1 q1
      exact Nat.lt_irrefl _ (by have:=Heap.lt_size eb;rw[z]at this;exact this)
    have hk9:∀b∈fp,∀o,s8.heap.get? b=some o->h9.get? b=some o:=fun b f o e=>sb9.extBut b o (fun z=>by
     obtain⟨ob,eb,_⟩:=T.obj _ _ t b f
     exact Nat.lt_irrefl _ (by have:=Heap.lt_size eb;rw[z]at this;exact this)) e
    refine⟨m',hm,i+1,P++[v8],l++[y],k9,σ6,H8,I9.pins_of fun p hp=>?_,rv.append (.cons r8 .nil),T.keep _ _ _ (K I8).1 hk9,(K I8).2,w8⟩
    have e:p=(a.heap.objs.size,{cls:= .type "list",data:= .seq (List.toArray (l++[y])) k9}):=by simpa using hp
    subst e
    exact⟨(show h9.get? a.heap.objs.size=some {cls:= .type "list",data:= .seq (List.toArray (l++[y])) k9} by rw[e9];simp),F.2.1,F.2.2.1,F.2.2.2.1,fun v z=>nomatch z⟩
 exact codeAny_compStart_list (loop _ rfl) (T.self _ 0 _ _ _ (T.keep _ _ _ t fun b _ o e=>old b o e) (loop _ rfl))
theorem ps_lcR{X}{scope}{cl}{N}{bs}{tg a elt}{ifs}{p pos' pos spos px}{x}{ta}{g gt}{tt}{te}(B:Blk X scope cl N bs)(hc:X.calm=true)
  (hgl:Gl X "range")(hmr:X.mg "range"=none)(ha:PA X [a] ta)(hm:MonoA ta)(hpl:plainE a=true)(hg:∀C fp s H,PG (cxBlk X scope cl C N fp s H) tg g) (ht:∀C fp s H,PTs (cxBlk X scope cl C N fp s H) ifs tt) (he:∀C fp s H,PE (cxBlk X scope cl C N fp s H) elt te)
  (hgt:PG X (.Name x px) gt) (hsw:swapsWith (.ListComp elt [⟨tg,.Call (.Name "range" p) [a] [] pos',ifs,0⟩] scope pos) (some (.Name x px)) spos.line X.env=pure true)
  (hs:∀x,foldedSetIterable (.Call (.Name "range" p) [a] [] pos') X.env x=pure x:=by intro _;rfl):PS X (.Assign [.Name x px] (.ListComp elt [⟨tg,.Call (.Name "range" p) [a] [] pos',ifs,0⟩] scope pos) spos) (tAsg (tLCR bs ta g tt te) gt):=by
 refine fun b s σ H D I h=>@ps_lc X scope cl N bs tg _ elt ifs pos spos px x (iRng1 ta) g gt tt te B hc (@pi_range1 X tg a ta p pos' hgl hmr ha (star_cons hpl)) hg ht he hgt hsw hs b s σ H D I (hm σ H _ _ (fun _ d h=>?_) h)
 obtain⟨n,e,j,q,i,k,m,o⟩:=h
 exact⟨n,e,by simp,by omega,lc_range (Q:=fun x d=>gt x σ d D.nx) q (leMil j) i k m fun l σ H f p c=>o l σ H f p _ (same_add c) upd_same⟩
end L2
namespace PySem
open Sem (wp)
open PyProof.Rows
section
variable{prog:Program}{w:World}{A:Around}{E:Value->Shared->Prop}{s:Shared}
theorem lri_len:typeLookup (.type "list_reverseiterator") "__len__"=pure none:=by kernel_rfl
theorem lri_hint:typeLookup (.type "list_reverseiterator") "__length_hint__"=pure (some (.builtin "list_reverseiterator.__length_hint__")):=by kernel_rfl
theorem hint_rev{it l}{i}{Q}(hit:s.heap.IsRevIter it l i)(h:Q false s):wpAny (model prog w) A (Builtin.List.listLengthHint (.ref it)) Q E s:=by
 have e:=Heap.IsRevIter.typeIs hit
 refine wpAny_bind (wpAny_specialOf e lri_len (wpAny_bind (wpAny_specialOf e lri_hint ?_)))
 generalize d:("list_reverseiterator.__length_hint__")=id0
 wp_delta
 subst d
 exact wpAny_bind (wpAny_isInstance (b:=true) e (by kernel_rfl) (wpAny_ite_split (fun a=>absurd a (by decide)) (fun _=>wpAny_ite_split (fun _=>(wpAny_ite_split (fun a=>absurd a (by decide+kernel)) (fun _=>wpAny_pure h))) (fun a=>absurd (by decide+kernel) a))))
theorem extend_rev{R:Result->Shared->Prop}{it l}{items}(hh:A.handled=none)(hne:l≠it)(hit:s.heap.IsRevIter it l ((items.size:Int)-1))(hl:s.heap.IsList l items)(hlen:items.size<=sizeLine)
  (S)(hSl:S≠l)(res:Value)(c₀:Nat)(hS:s.heap.get? S=some {cls:= .type "list",data:= .seq #[] c₀})
  (hR:∀h' tk acc' c',(∀b o,b≠S->b≠it->s.heap.get? b=some o->h'.get? b=some o)->h'.get? S=some {cls:= .type "list",dict:=none,data:= .seq acc' c',slots:=#[]}->
   ItemsOf (fun i v=>items[items.size-1-i]?=some v) acc' items.size->R (.ok (.ret res)) {s with heap:=h',toks:=tk}):
  wpAny (model prog w) A.in1 (Builtin.List.listExtendWith (.ref S) (.ref it) res)
   (fun fin s'=>match fin with| .done f=>R (.ok f) s'| .again c'=>c'.quiet=true/\codeAny (model prog w) A c' R s') (fun e s'=>R (.error e) s') s:=by
 have h:S≠it:=fun e=>by
  obtain⟨o,_,_,_⟩:=hit
  grind
 have k:S ∉ [it,l]:=fun g=>by
  simp_all
 refine wpAny_bind (wpAny_typeOf (T:="list_reverseiterator") (Heap.IsRevIter.typeIs hit) ?_)
 simp[(show Builtin.List.listSameRef (.ref S) (.ref it)=false by simp[Builtin.List.listSameRef,h]),(show(Value.type "list_reverseiterator"==Value.type "list")=false by decide),(show(Value.type "list_reverseiterator"==Value.type "tuple")=false by decide),Bool.or_false,Bool.false_eq_true,if_false]
 refine wpAny_bind (wpAny_pyIter_revIter hit (wpAny_bind (wpAny_holding (hint_rev hit (wpAny_ite_split (fun d=>absurd d (by decide)) (fun _=>wpAny_pure ⟨plainId_quiet F.plain_extend_loop _,codeAny_extend_loopS ((Walks.listRev (prog:=prog) (w:=w) (A:=A.in1) hh it l hne items).toS) hlen S k res items.size 0 _ #[] c₀ rfl (Nat.zero_le _) ⟨Nat.zero_le _,by simpa using hit,hl⟩ hS (ItemsOf.nil _) fun s' acc' c' g j c=>?_⟩))))))
 rw[Moved.eq_with g]
 refine hR s'.heap s'.toks acc' c' (fun b o _ _ e=>g.heap b o (fun _=>?_) e) j c
 simp_all
theorem list_init_rev{R:Result->Shared->Prop}{it l}{items}(hh:A.handled=none)(hne:l≠it)(hit:s.heap.IsRevIter it l ((items.size:Int)-1))(hl:s.heap.IsList l items)(hlen:items.size<=sizeLine)
  (S)(hSl:S≠l)(hSr:S≠it)(hS:s.heap.get? S=some {cls:= .type "list",data:= .seq #[]})
  (hR:∀h' tk acc' c',(∀b o,b≠S->b≠it->s.heap.get? b=some o->h'.get? b=some o)->h'.get? S=some {cls:= .type "list",dict:=none,data:= .seq acc' c',slots:=#[]}->
   ItemsOf (fun i v=>items[items.size-1-i]?=some v) acc' items.size->R (.ok (.ret .none)) {s with heap:=h',toks:=tk}):
  wpAny (model prog w) A.in1 (Builtin.«list.__init__» ⟨[.ref S,.ref it],[]⟩)
   (fun fin s'=>match fin with| .done f=>R (.ok f) s'| .again c'=>c'.quiet=true/\codeAny (model prog w) A c' R s') (fun e s'=>R (.error e) s') s:=by
 refine wpAny_bind (wpAny_bind (wpAny_seqItems hS rfl (wpAny_pure (wpAny_bind (wpAny_updateSeq hS rfl ?_)))))
 have a:∀b o,b≠S->s.heap.get? b=some o->(s.heap.update S (Obj.mapSeq (fun _=>(#[]:Array Value)))).get? b=some o:=
  fun b o d e=>(Heap.get?_update_other _ _ (Ne.symm d)).trans e
 refine wpAny_bind (wpAny_letGo (extend_rev hh hne (hit.at fun o e=>a it o (Ne.symm hSr) e) (hl.at fun o e=>a l o (Ne.symm hSl) e) hlen S hSl .none _ (Heap.get?_update_self (Obj.mapSeq (fun _=>(#[]:Array Value))) hS rfl) fun h' tk acc' c' j g c=>?_))
 exact hR h' tk acc' c' (fun b o d h e=>j b o d h (a b o d e)) g c
theorem call_list_rev{Q}{it l}{items}(hh:A.handled=none)(hne:l≠it)(hit:s.heap.IsRevIter it l ((items.size:Int)-1))(hl:s.heap.IsList l items)(hlen:items.size<=sizeLine)
  (hQ:∀h' tk acc' c',(∀b o,b≠it->s.heap.get? b=some o->h'.get? b=some o)->
   h'.get? s.heap.objs.size=some {cls:= .type "list",dict:=none,data:= .seq acc' c',slots:=#[]}->ItemsOf (fun i v=>items[items.size-1-i]?=some v) acc' items.size->Q (.ref s.heap.objs.size) {s with heap:=h',toks:=tk}):
  wpAny (model prog w) A (call (.type "list") [.ref it]) Q E s:=by
 refine callType_codes (Q₁:=fun a g=>a= .ref s.heap.objs.size/\g={s with heap:=s.heap.push {cls:= .type "list",data:= .seq #[]}}) F.called_list (F.typeCall_list_1 _) F.entry_list_init
  (code_list_new _ ⟨rfl,rfl⟩) fun a g m=>?_
 obtain⟨rfl,rfl⟩:=m
 have h:(s.heap.push _).get? _=some {cls:= .type "list",data:= .seq #[]}:=Heap.get?_push_size _ rfl
 refine⟨⟨_,h,rfl⟩,F.args_list_init_2 _ _,list_init_rev (A:=A.in1) hh hne (hit.at fun o e=>Heap.get?_push_of_some _ e) (hl.push _) hlen s.heap.objs.size (Nat.ne_of_gt (show l<s.heap.objs.size by obtain⟨o,d,_⟩:=hl;exact Heap.lt_size d)) (Nat.ne_of_gt (show it<s.heap.objs.size by obtain⟨o,d,_⟩:=hit;exact Heap.lt_size d)) h fun h' tk acc' c' j f c=>?_⟩
 exact⟨rfl,hQ h' tk acc' c' (fun b o k e=>j b o (Nat.ne_of_lt (Heap.lt_size e)) k (Heap.get?_push_of_some _ e)) f c⟩
end
end PySem
namespace L2
open PySem PySem.Spec PyProof.Rows
theorem boot_list:bootBuiltins "list"=some (.type "list"):=by decide+kernel
theorem boot_rev:bootBuiltins "reversed"=some (.type "reversed"):=by decide+kernel
def tRev(K:PySem.W.Frag)(ta:TE):TE:=fun σ H Q=>ta σ H fun x H1=>∃l xs,x= .ref l/\SqL K H1 l xs/\∀d H',Same H1 H'->H' d=some (.lst xs.reverse)->Q (.ref d) H'
theorem pe_listRev{X}{a}{ta}{p1 p2 pos1 pos2}(hc:X.calm=true)(ha:PE X a ta)(hg:Gl X "list":=by rfl)(hm:X.mg "list"=none:=by rfl)(hg2:Gl X "reversed":=by rfl)(hm2:X.mg "reversed"=none:=by rfl)(hpl:plainE a=true:=by rfl):
  PE X (.Call (.Name "list" p1) [.Call (.Name "reversed" p2) [a] [] pos2] [] pos1) (tRev X.K ta):=by
 refine fun n s σ H Q I h=>wpAny_Call_Name_kw (ld_blt I hg hm boot_list (callWith_type1 (Calls.spliced_cons ?_) rfl rfl))
 refine wpAny_Call_Name_kw (ld_blt I hg2 hm2 boot_rev (callWith_type1 (thn ((pa_c ha pa_nil hpl) pos2 n s σ H (only1 fun x w=>∃l p,x= .ref l/\SqL X.K w l p/\∀d z,Same w z->z d=some (.lst p.reverse)->Q (.ref d) z) I h) fun us s1 xq1=>?_) (star_cons hpl) rfl))
 obtain⟨m,w,r,r1,t⟩:=xq1
 obtain⟨x1,rfl,t⟩:=only1_of t
 obtain⟨u1,rfl,ru⟩:=vals1 r1
 obtain⟨l,p,rfl,hp,q⟩:=t
 cases ru
 obtain⟨m,rv,pl,hz⟩:=r.list hp
 have v:=pl.isList
 have g:=rv.length
 refine call_reversed_list v (Calls.spliced_nil (call_list_rev (items:=m.toArray) (r.ok.hd hc) (Nat.ne_of_lt (show l<s1.heap.objs.size by obtain⟨_,e,_⟩:=v;exact Heap.lt_size e)) ⟨_,Heap.get?_push_size _ rfl,rfl,rfl⟩ (v.push _) (by grind) fun h' tk f c' kp e2 it=>?_))
 obtain⟨i1,i2⟩:=it
 have hv:=vals_of_get (by rw[List.length_reverse,Array.length_toList];exact g.trans i1.symm) fun i x u y e4=>by
  have hi:i<p.length:=by
   have:=(List.getElem?_eq_some_iff.mp y).1
   rwa [List.length_reverse]at this
  rw[List.getElem?_reverse hi]at y
  obtain⟨u',g1,g2⟩:=rv.get y
  rw[g,(show m[m.length-1-i]?=some u by simpa using(i2 i u (show f[i]?=some u by simpa using e4)))]at g1
  cases g1
  exact g2
 refine⟨.ref _,_,r.laid (t':=tk) (o:= .lst p.reverse) (a:=(s1.heap.push (revObj l (m.toArray.size-1))).objs.size) (fun b o e=>kp b o (Nat.ne_of_lt (Heap.lt_size e)) (Heap.get?_push_of_some _ e)) (by simp_all) ?_,rfl,q _ _ (same_add (r.hok.fresh (by simp_all))) upd_same⟩
 exact⟨by simp_all,f.toList,c',hv,by rw[e2]⟩
section
variable{X:Cx}
end
end L2
namespace L2
open PySem PySem.Spec PyProof.Rows PySem.SeqAt
def Atom:V->Prop
 | .non=>True
 | .bl _=>True
 | .int _=>True
 | .str _=>True
 |_=>False
def Sam(K:PySem.W.Frag)(H:Hp):Nat->V->V->Prop
 |0,x,y=>x=y/\Atom x
 |d+1,x,y=>(x=y/\Atom x)\/∃a b xs ys,x= .ref a/\y= .ref b/\((SqT K H a xs/\SqT K H b ys)\/(SqL K H a xs/\SqL K H b ys))/\xs.length=ys.length/\∀(i:Nat) u v,xs[i]?=some u->ys[i]?=some v->Sam K H d u v
section
variable{X:Cx}
theorem atom_eq{A:Around}{s:Shared}{x:V}{u v:Value}(h:Atom x)(ru:RelV x u)(rv:RelV x v):EqAt A s u v true:=by
 cases x with
 |non=>cases(show u=Value.none from ru);cases(show v=Value.none from rv);exact EqAt.same _
 |bl b=>cases(show u=Value.bool b from ru);cases(show v=Value.bool b from rv);exact EqAt.same _
 |int i=>
  obtain⟨t,rfl⟩:=ru
  obtain⟨t',rfl⟩:=rv
  have e:=EqAt.int_int (A:=A) (s:=s) i t i t'
  rw[beq_self_eq_true]at e
  exact e
 |str i=>
  obtain⟨t,rfl⟩:=ru
  obtain⟨t',rfl⟩:=rv
  have e:=(eqGives_str i i t t').at A s
  rw[beq_self_eq_true]at e
  exact e
 |_=>exact h.elim
theorem all_true(n:Nat):(List.range n).all (fun _=>true)=true:=by simp
theorem sam_eq{pins:List (Addr×Obj)}{σ:St}{H:Hp}{s:Shared}(I:Inv X pins σ H s):∀(d:Nat)(A:Around)(x y:V)(u v:Value),A.units+d<cLine->Sam X.K H d x y->RelV x u->RelV y v->EqAt A s u v true
 |0,A,x,y,u,v,hu,h,ru,rv=>by
  obtain⟨rfl,h⟩:=h
  exact atom_eq h ru rv
 |d+1,A,x,y,u,v,hu,h,ru,rv=>by
  rcases h with⟨rfl,h⟩|⟨a,b,xs,ys,rfl,rfl,h,hl,hk⟩
  ·exact atom_eq h ru rv
  cases(show u=Value.ref a from ru)
  cases(show v=Value.ref b from rv)
  by_cases hab:a=b
  ·subst hab
   exact EqAt.same _
  refine EqAt.of_refs hab ?_
  rcases h with⟨ha,hb⟩|⟨ha,hb⟩
  ·obtain⟨vs,rvs,pa,_⟩:=I.tuple ha
   obtain⟨ws,rws,pb,_⟩:=I.tuple hb
   have l1:=rvs.length
   have l2:=rws.length
   have e:=RcAt.tuples (A:=A) (s:=s) (e:=fun _=>true) pa pb (by omega) (fun j h1 h2=>?_)
   ·rw[all_true]at e
    have:(vs.toArray.size==ws.toArray.size)=true:=by simp;omega
    rw[this]at e
    exact e
   ·simp only[List.size_toArray]at h1 h2
    obtain⟨x1,e1,r1⟩:=rvs.get (List.getElem?_eq_getElem (l:=xs) (i:=j) (by omega))
    obtain⟨y1,e2,r2⟩:=rws.get (List.getElem?_eq_getElem (l:=ys) (i:=j) (by omega))
    have g1:vs[j]=x1:=by rw[List.getElem?_eq_getElem h1]at e1;exact Option.some.inj e1
    have g2:ws[j]=y1:=by rw[List.getElem?_eq_getElem h2]at e2;exact Option.some.inj e2
    have g:=sam_eq I d A.in1 _ _ x1 y1 (by show A.units+1+d<cLine;omega) (hk j _ _ (List.getElem?_eq_getElem (by omega)) (List.getElem?_eq_getElem (by omega))) r1 r2
    simp only[List.getElem_toArray,g1,g2]
    exact g
  ·obtain⟨vs,rvs,pa,_⟩:=I.list ha
   obtain⟨ws,rws,pb,_⟩:=I.list hb
   have l1:=rvs.length
   have l2:=rws.length
   have e:=RcAt.lists (A:=A) (s:=s) (e:=fun _=>true) pa.isList pb.isList (by simp;omega) (by omega) (fun j h1 h2=>?_)
   ·rw[all_true]at e
    exact e
   ·simp only[List.size_toArray]at h1 h2
    obtain⟨x1,e1,r1⟩:=rvs.get (List.getElem?_eq_getElem (l:=xs) (i:=j) (by omega))
    obtain⟨y1,e2,r2⟩:=rws.get (List.getElem?_eq_getElem (l:=ys) (i:=j) (by omega))
    have g1:vs[j]=x1:=by rw[List.getElem?_eq_getElem h1]at e1;exact Option.some.inj e1
    have g2:ws[j]=y1:=by rw[List.getElem?_eq_getElem h2]at e2;exact Option.some.inj e2
    have g:=sam_eq I d A.in1 _ _ x1 y1 (by show A.units+1+d<cLine;omega) (hk j _ _ (List.getElem?_eq_getElem (by omega)) (List.getElem?_eq_getElem (by omega))) r1 r2
    simp only[List.getElem_toArray,g1,g2]
    exact g
inductive rNeD(K:PySem.W.Frag)(b:Bool)(x:V)(y:V)(H:Hp)(Q:VK):Prop
 |mk (p q:Addr) (xs ys:List V) (_:x= .ref p) (_:y= .ref q) (_:((SqT K H p xs/\SqT K H q ys)\/(SqL K H p xs/\SqL K H q ys))) (_:xs.length=ys.length) (_:(∀(i:Nat) u v,xs[i]?=some u->ys[i]?=some v->Sam K H 6 u v)) (_:Q (.bl b) H)
theorem sam_items{pins:List (Addr×Obj)}{σ:St}{H:Hp}{s:Shared}(I:Inv X pins σ H s){A:Around}(hu:A.units+7<cLine){xs ys:List V}{vs ws:List Value}(rvs:Vals xs vs)(rws:Vals ys ws)(hl:xs.length=ys.length)
  (hk:∀(i:Nat) u v,xs[i]?=some u->ys[i]?=some v->Sam X.K H 6 u v) (j:Nat) (h1:j<vs.toArray.size) (h2:j<ws.toArray.size):EqAt A.in1 s vs.toArray[j] ws.toArray[j] true:=by
 have l1:=rvs.length
 have l2:=rws.length
 simp only[List.size_toArray]at h1 h2
 obtain⟨x1,e1,r1⟩:=rvs.get (List.getElem?_eq_getElem (l:=xs) (i:=j) (by omega))
 obtain⟨y1,e2,r2⟩:=rws.get (List.getElem?_eq_getElem (l:=ys) (i:=j) (by omega))
 have g1:vs[j]=x1:=by rw[List.getElem?_eq_getElem h1]at e1;exact Option.some.inj e1
 have g2:ws[j]=y1:=by rw[List.getElem?_eq_getElem h2]at e2;exact Option.some.inj e2
 have g:=sam_eq I 6 A.in1 _ _ x1 y1 (by show A.units+1+6<cLine;omega) (hk j _ _ (List.getElem?_eq_getElem (by omega)) (List.getElem?_eq_getElem (by omega))) r1 r2
 simp only[List.getElem_toArray,g1,g2]
 exact g
theorem op_neD{k:Nat}(hr:Room k X.A):OpR X (compareOp .NotEq) (rNeD X.K false):=by
 intro pins s σ H x y v u Q I rx ry h
 obtain⟨p,q,xs,ys,rfl,rfl,h,hl,hk,hq⟩:=h
 cases(show v=Value.ref p from rx)
 cases(show u=Value.ref q from ry)
 have hun:=hr.un
 show wpAny _ _ (richCompare .NotEq (.ref p) (.ref q)) _ _ s
 rcases h with⟨ha,hb⟩|⟨ha,hb⟩
 ·obtain⟨vs,rvs,pa,_⟩:=I.tuple ha
  obtain⟨ws,rws,pb,_⟩:=I.tuple hb
  have l1:=rvs.length
  have l2:=rws.length
  refine RcNeAt.tuples (A:=X.A) (s:=s) (e:=fun _=>true) pa pb (by omega) (sam_items I (by omega) rvs rws hl hk) _ _ _ _ ?_
  have e2:(vs.toArray.size==ws.toArray.size)=true:=by simp;omega
  rw[all_true,e2]
  exact⟨.bl _,H,I,rfl,hq⟩
 ·obtain⟨vs,rvs,pa,_⟩:=I.list ha
  obtain⟨ws,rws,pb,_⟩:=I.list hb
  have l1:=rvs.length
  have l2:=rws.length
  refine RcNeAt.lists (A:=X.A) (s:=s) (e:=fun _=>true) pa.isList pb.isList (by simp;omega) (by omega) (sam_items I (by omega) rvs rws hl hk) _ _ _ _ ?_
  rw[all_true]
  exact⟨.bl _,H,I,rfl,hq⟩
theorem op_eqD{k:Nat}(hr:Room k X.A):OpR X (compareOp .Eq) (rNeD X.K true):=by
 intro pins s σ H x y v u Q I rx ry h
 obtain⟨p,q,xs,ys,rfl,rfl,h,hl,hk,hq⟩:=h
 cases(show v=Value.ref p from rx)
 cases(show u=Value.ref q from ry)
 have hun:=hr.un
 show wpAny _ _ (richCompare .Eq (.ref p) (.ref q)) _ _ s
 rcases h with⟨ha,hb⟩|⟨ha,hb⟩
 ·obtain⟨vs,rvs,pa,_⟩:=I.tuple ha
  obtain⟨ws,rws,pb,_⟩:=I.tuple hb
  have l1:=rvs.length
  have l2:=rws.length
  refine RcAt.tuples (A:=X.A) (s:=s) (e:=fun _=>true) pa pb (by omega) (sam_items I (by omega) rvs rws hl hk) _ _ _ _ ?_
  have e2:(vs.toArray.size==ws.toArray.size)=true:=by simp;omega
  rw[all_true,e2]
  exact⟨.bl _,H,I,rfl,hq⟩
 ·obtain⟨vs,rvs,pa,_⟩:=I.list ha
  obtain⟨ws,rws,pb,_⟩:=I.list hb
  have l1:=rvs.length
  have l2:=rws.length
  refine RcAt.lists (A:=X.A) (s:=s) (e:=fun _=>true) pa.isList pb.isList (by simp;omega) (by omega) (sam_items I (by omega) rvs rws hl hk) _ _ _ _ ?_
  rw[all_true]
  exact⟨.bl _,H,I,rfl,hq⟩
end
end L2
namespace L2
open PySem PySem.Spec PyProof.Rows
section
variable{κ:Type}[DecidableEq κ]
def valV(kvs:List (κ×V))(k:κ):Option V:=(kvs.find? fun kv=>decide (kv.1=k)).map (·.2)
def putK(kvs:List (κ×V))(k:κ)(v:V):List (κ×V):=
 if(kvs.any fun kv=>decide (kv.1=k))=true then kvs.map (fun kv=>if kv.1=k then(kv.1,v)else kv)else kvs++[(k,v)]
def dropK(kvs:List (κ×V))(k:κ):List (κ×V):=kvs.filter fun kv=>decide (kv.1≠k)
theorem valV_pos{p}{r}{k:κ}(e:p.1=k):valV (p::r) k=some p.2:=by simp[valV,List.find?_cons,e]
theorem valV_neg{p}{r}{k:κ}(e:¬p.1=k):valV (p::r) k=valV r k:=by simp[valV,List.find?_cons,e]
theorem valV_any(k):∀kvs:List (κ×V),(kvs.any fun kv=>decide (kv.1=k))=(valV kvs k).isSome
 |[]=>rfl
 |p::r=>by
  rw[List.any_cons]
  by_cases e:p.1=k
  ·simp[valV_pos e,decide_eq_true e,Bool.true_or,Option.isSome_some]
  ·rw[valV_neg e,decide_eq_false e,Bool.false_or];exact valV_any k r
theorem valV_map(k j)(y):∀kvs:List (κ×V),valV (kvs.map fun kv=>if kv.1=k then(kv.1,y)else kv) j=(valV kvs j).map fun x=>if j=k then y else x
 |[]=>rfl
 |p::r=>by
  have a:=valV_map k j y r
  rw[List.map_cons]
  by_cases h:p.1=k
  ·rw[if_pos h]
   by_cases e:p.1=j
   ·rw[valV_pos (p:=(p.1,y)) e,valV_pos e,Option.map_some,if_pos (e.symm.trans h)]
   ·rw[valV_neg (p:=(p.1,y)) e,valV_neg e,a]
  ·rw[if_neg h]
   by_cases e:p.1=j
   ·rw[valV_pos e,valV_pos e,Option.map_some,if_neg (fun z=>h (e.trans z))]
   ·rw[valV_neg e,valV_neg e,a]
theorem valV_snoc(k j)(y):∀kvs:List (κ×V),valV kvs k=none->valV (kvs++[(k,y)]) j=if j=k then some y else valV kvs j
 |[],_=>by
  by_cases e:k=j
  ·rw[if_pos e.symm];exact valV_pos e
  ·rw[if_neg (fun z=>e z.symm)];exact valV_neg e
 |p::r,a=>by
  rw[List.cons_append]
  have b:¬p.1=k:=fun z=>by rw[valV_pos z]at a;cases a
  rw[valV_neg b]at a
  by_cases e:p.1=j
  ·rw[valV_pos e,valV_pos e,if_neg (fun z=>b (e.trans z))]
  ·rw[valV_neg e,valV_neg e,(valV_snoc k j y r a)]
theorem valV_put(kvs)(k j:κ)(y):valV (putK kvs k y) j=if j=k then some y else valV kvs j:=by
 unfold putK
 by_cases a:(kvs.any fun b=>decide (b.1=k))=true
 ·rw[if_pos a,valV_map]
  rw[valV_any]at a
  by_cases e:j=k
  ·obtain⟨x,_⟩:=Option.isSome_iff_exists.mp a
   simp_all
  ·simp_all
 ·rw[if_neg a]
  refine valV_snoc k j y _ ?_
  rw[valV_any]at a
  simp_all
theorem length_putK(kvs)(k:κ)(v):(putK kvs k v).length<=kvs.length+1:=by
 unfold putK
 (split<;>simp_all)
theorem putK_new{kvs}{k:κ}(v)(h:valV kvs k=none):putK kvs k v=kvs++[(k,v)]:=by
 unfold putK
 rw[valV_any,h]
 simp_all
theorem RelO.isSome_eq{o}{u}(r:RelO o u):o.isSome=u.isSome:=by
 cases o with
 |none=>cases u with
  |none=>rfl
  |some _=>exact r.elim
 |some _=>cases u with
  |none=>exact r.elim
  |some _=>rfl
theorem RelO.getD{o}{u}{d}{d'}(r:RelO o u)(rd:RelV d d'):RelV (o.getD d) (u.getD d'):=by
 cases o with
 |none=>cases u with
  |none=>exact rd
  |some _=>exact r.elim
 |some _=>cases u with
  |none=>exact r.elim
  |some _=>exact r
theorem KV.val{kvs}{vs}(r:KV kvs vs)(k:κ):RelO (valV kvs k) (valueAt vs k):=by
 induction r with
 |nil=>exact True.intro
 |@cons p q _ a h t d=>
  obtain⟨c,f⟩:=h
  by_cases e:p.1=k
  ·have b:valueAt (q::a) k=some q.2:=by simp[valueAt,List.find?_cons,(c.symm.trans e)]
   rw[valV_pos e,b];exact f
  ·rw[valV_neg e,(show valueAt _ k=valueAt a k by simp[valueAt,List.find?_cons,(show¬q.1=k from fun z=>e (c.trans z))])];exact d
theorem KV.any{kvs}{vs}(r:KV kvs vs)(k:κ):(kvs.any fun kv=>decide (kv.1=k))=vs.any fun kv=>decide (kv.1=k):=by
 induction r with
 |nil=>rfl
 |_ h t _=>simp_all
theorem KV.repl{kvs}{vs}(r:KV kvs vs)(k:κ){y:V}{u:Value}(ry:RelV y u):
  KV (kvs.map fun kv=>if kv.1=k then(kv.1,y)else kv) (vs.map fun kv=>if kv.1=k then(kv.1,u)else kv):=by
 induction r with
 |nil=>exact .nil
 |@cons p q _ _ h t c=>
  refine .cons ?_ c
  grind
theorem KV.put{kvs}{vs}(r:KV kvs vs)(k:κ){y}{u}(ry:RelV y u):KV (putK kvs k y) (stored vs k u):=by
 unfold putK stored
 rw[r.any k]
 by_cases e:(vs.any fun a=>decide (a.1=k))=true
 ·rw[if_pos e,if_pos e];exact r.repl k ry
 ·rw[if_neg e,if_neg e];exact Paired.snoc r ⟨rfl,ry⟩
theorem KV.drop{kvs:List (κ×V)}{vs:List (κ×Value)}(r:KV kvs vs)(k:κ):KV (dropK kvs k) (without vs k):=by
 unfold KV at r⊢
 unfold dropK without
 induction r with
 |nil=>exact .nil
 |@cons p q ps qs h t ih=>
  obtain⟨h1,h2⟩:=h
  rw[List.filter_cons,List.filter_cons]
  by_cases e:p.1=k
  ·have a:¬decide (p.1≠k)=true:=by simp[e]
   have b:¬decide (q.1≠k)=true:=by simp[h1.symm.trans e]
   rw[if_neg a,if_neg b];exact ih
  ·have e':¬q.1=k:=fun z=>e (h1.trans z)
   have a:decide (p.1≠k)=true:=by simp[e]
   have b:decide (q.1≠k)=true:=by simp[e']
   rw[if_pos a,if_pos b];exact .cons ⟨h1,h2⟩ ih
theorem KV.keys{kvs:List (κ×V)}{vs:List (κ×Value)}(r:KV kvs vs):kvs.map (·.1)=vs.map (·.1):=by
 unfold KV at r
 induction r with
 |nil=>rfl
 |cons h t ih=>rw[List.map_cons,List.map_cons,ih,h.1]
theorem KV.length{kvs}{vs:List (κ×Value)}(r:KV kvs vs):kvs.length=vs.length:=Paired.length r
theorem dropK_le(kvs:List (κ×V))(k:κ):(dropK kvs k).length<=kvs.length:=List.length_filter_le _ _
end
theorem kV_is{P}{w}{k}{u}(r:RelV (kV k) u):(mixKind P w).is k u=true:=by
 cases k with
 |inl i=>obtain⟨t,e⟩:=r;subst e;exact mixKind_int P w i t
 |_ x=>obtain⟨t,e⟩:=r;subst e;exact mixKind_str P w x t
theorem items_are{P}{w}:∀{ks}{us},Vals (ks.map kV) us->ItemsAre (mixKind P w) ks us
 |[],_,r=>by cases r;exact .nil
 |k::ks,_,r=>by
  cases r with
  |cons h t=>exact .cons (kV_is h) (items_are t)
abbrev KT(H:Hp):List (List Key×V)->List (List Key×Addr×Value)->Prop:=Paired fun p q=>p.1=q.1/\H q.2.1=some (.tup (p.1.map kV))/\RelV p.2 q.2.2
theorem KT.val{H}{kvs:List (List Key×V)}{xs:List (List Key×Addr×Value)}(r:KT H kvs xs)(k:List _):RelO (valV kvs k) ((atKey xs k).map (·.2)):=by
 induction r with
 |nil=>exact True.intro
 |@cons p q _ a h t d=>
  obtain⟨c,_,f⟩:=h
  by_cases e:p.1=k
  ·have b:atKey (q::a) k=some q.2:=by simp[atKey,List.find?_cons,(c.symm.trans e)]
   rw[valV_pos e,b];exact f
  ·rw[valV_neg e,(show atKey _ k=atKey a k by simp[atKey,List.find?_cons,(show¬q.1=k from fun z=>e (c.trans z))])];exact d
theorem KT.repl{H}{kvs}{xs:List _}(r:KT H kvs xs)(k:List _){y:V}{u:Value}(ry:RelV y u):
  KT H (kvs.map fun kv=>if kv.1=k then(kv.1,y)else kv) (xs.map (putAt k u)):=by
 induction r with
 |nil=>exact .nil
 |@cons p q _ _ h t c=>
  refine .cons ?_ c
  obtain⟨_,_,_⟩:=h
  unfold putAt
  by_cases e:p.1=k
  ·simp_all
  ·simp_all
theorem KT.put{H:Hp}{kvs:List _}{xs:List _}(r:KT H kvs xs)(k:List _){b:Addr}{y:V}{u:Value}(hb:H b=some (.tup (k.map kV)))(ry:RelV y u):
  KT H (putK kvs k y) (storedH xs k b u):=by
 have e:(kvs.any fun c=>decide (c.1=k))=(atKey xs k).isSome:=by
  rw[valV_any,(r.val k).isSome_eq,Option.isSome_map]
 unfold putK storedH
 rw[e]
 by_cases q:(atKey xs k).isSome=true
 ·rw[if_pos q,if_pos q];exact r.repl k ry
 ·rw[if_neg q,if_neg q];exact Paired.snoc r ⟨rfl,hb,ry⟩
theorem KT.keeps{H H'}{kvs}{xs}(r:KT H kvs xs)(ht:∀b ys,H b=some (.tup ys)->H' b=some (.tup ys)):KT H' kvs xs:=
 Paired.mapP r fun _ _ z=>⟨z.1,ht _ _ z.2.1,z.2.2⟩
section
variable{P:Program}{w:World}{H:Hp}{h:Heap}{a:Addr}
theorem rd_of{u}(ok:HOk P w H h)(e:Rd H a u):ObjOk P w H h a u:=e.ok ok
theorem dk_rd{kvs}(ok:HOk P w H h)(e:Rd H a (.dK kvs)):kvs.length<=sizeLine/\(a==sysModules)=false/\∃vs,KV kvs vs/\h.DictOf (mixKind P w) a vs:=
 rd_of ok e
theorem dk_of{kvs}(ok:HOk P w H h)(e:H a=some (.dK kvs)):kvs.length<=sizeLine/\(a==sysModules)=false/\∃vs,KV kvs vs/\h.DictOf (mixKind P w) a vs:=dk_rd ok (.inl e)
theorem key_of{ks}(ok:HOk P w H h)(e:H a=some (.tup (ks.map kV))):(tupleKind (mixKind P w)).is h ks a:=by
 obtain⟨_,_,r,o,d,c,n,b⟩:=(ok a _ e)
 exact⟨o,_,n,d,c,b,by simpa using items_are r⟩
theorem dt_rd{kvs}(ok:HOk P w H h)(e:Rd H a (.dT kvs)):kvs.length<=sizeLine/\(a==sysModules)=false/\
  ∃xs,KT H kvs xs/\h.DictOfH (tupleKind (mixKind P w)) a xs:=by
 obtain⟨z,y,xs,r,o,s,i,k,n,j,f,d⟩:=(rd_of ok e)
 refine⟨z,y,xs,r,o,s,i,k,n,j,f,fun x b=>?_,d⟩
 have c:∀{l}{m},KT H l m->∀x∈m,(tupleKind (mixKind P w)).is h x.1 x.2.1:=by
  intro l m q
  induction q with
  |nil=>simp_all
  |@cons p q _ _ _ t g=>
   intro x b
   rcases List.mem_cons.mp b with e|b
   ·subst e
    exact key_of ok (by simp_all)
   ·exact g x b
 exact c r x b
theorem dt_of{kvs}(ok:HOk P w H h)(e:H a=some (.dT kvs)):kvs.length<=sizeLine/\(a==sysModules)=false/\
  ∃xs,KT H kvs xs/\h.DictOfH (tupleKind (mixKind P w)) a xs:=dt_rd ok (.inl e)
end
def DGet(H:Hp)(a:Addr)(y:V)(r:Option V):Prop:=
 (∃kvs k,Rd H a (.dK kvs)/\y=kV k/\r=valV kvs k)\/∃kvs k b,Rd H a (.dT kvs)/\y= .ref b/\H b=some (.tup (k.map kV))/\r=valV kvs k
def DPut(H:Hp)(a:Addr)(y v:V)(H':Hp):Prop:=
 (∃kvs k,H a=some (.dK kvs)/\y=kV k/\kvs.length<sizeLine/\H'=upd H a (.dK (putK kvs k v)))\/
 ∃kvs k b,H a=some (.dT kvs)/\y= .ref b/\H b=some (.tup (k.map kV))/\kvs.length<sizeLine/\H'=upd H a (.dT (putK kvs k v))
theorem DGet.k{H}{a}{kvs}{k}(e:H a=some (.dK kvs)):DGet H a (kV k) (valV kvs k):= .inl ⟨kvs,k,.inl e,rfl,rfl⟩
theorem DGet.t{H}{a b}{kvs}{k}(e:H a=some (.dT kvs))(eb:H b=some (.tup (k.map kV))):DGet H a (.ref b) (valV kvs k):= .inr ⟨kvs,k,b,.inl e,rfl,eb,rfl⟩
theorem DPut.k{H}{a}{kvs}{k}{v}(e:H a=some (.dK kvs))(hl:kvs.length<sizeLine):DPut H a (kV k) v (upd H a (.dK (putK kvs k v))):= .inl ⟨kvs,k,e,rfl,hl,rfl⟩
theorem DPut.t{H}{a b}{kvs}{k}{v}(e:H a=some (.dT kvs))(eb:H b=some (.tup (k.map kV)))(hl:kvs.length<sizeLine):
  DPut H a (.ref b) v (upd H a (.dT (putK kvs k v))):= .inr ⟨kvs,k,b,e,rfl,eb,hl,rfl⟩
section
variable{X:Cx}{pins:List (Addr×Obj)}{σ:St}{H:Hp}{s:Shared}{a:Addr}{y v:V}{u r:Value}{o:Option V}{A:Around}{E:Value->Shared->Prop}
theorem d_getItem(hu:A.units+1<cLine)(I:Inv X pins σ H s)(g:DGet H a y (some v))(ry:RelV y u)(h:∀w' s',Inv X pins σ H s'->RelV v w'->Q w' s'):
  wpAny (model X.prog X.w) A (getItem (.ref a) u) Q E s:=by
 rcases g with⟨j,k,e,i,l⟩|⟨j,k,b,e,i,q,l⟩
 ·subst i
  obtain⟨z,r,_,c,f⟩:=dk_rd I.hok e
  obtain⟨w',m,d⟩:=RelO.some_of (by rw[l];exact c.val k)
  exact wpAny_getItem_of (kV_is ry) f.mapOf m (h w' _ (I.tok _) d)
 ·subst i
  cases ry
  obtain⟨z,r,_,c,f⟩:=dt_rd I.hok e
  obtain⟨w',m,d⟩:=RelO.some_of (by rw[l];exact c.val k)
  obtain⟨p,o,n⟩:=Option.map_eq_some_iff.mp m
  refine wpAny_getItem_heap (tupleKind_room_in1 hu) (key_of I.hok q) f o ?_
  rw[n]
  exact h w' _ (I.tok _) d
theorem d_in{Q}(hu:A.units+1<cLine)(I:Inv X pins σ H s)(g:DGet H a y o)(ry:RelV y u)(h:∀s',Inv X pins σ H s'->Q (.bool o.isSome) s'):
  wpAny (model X.prog X.w) A (compareOp .In u (.ref a)) Q E s:=by
 rcases g with⟨f,k,e,i,l⟩|⟨f,k,b,e,i,n,l⟩
 ·subst i
  obtain⟨z,m,_,d,j⟩:=dk_rd I.hok e
  refine wpAny_in_of (kV_is ry) m j.mapOf ?_
  rw[<-(d.val k).isSome_eq,<-l]
  exact h _ (I.tok _)
 ·subst i
  cases ry
  obtain⟨z,m,_,d,j⟩:=dt_rd I.hok e
  refine wpAny_in_heap (tupleKind_room_in1 hu) (key_of I.hok n) m j ?_
  have q:=(d.val k).isSome_eq
  rw[Option.isSome_map]at q
  rw[<-q,<-l]
  exact h _ (I.tok _)
theorem d_notIn{Q}(hu:A.units+1<cLine)(I:Inv X pins σ H s)(g:DGet H a y o)(ry:RelV y u)(h:∀s',Inv X pins σ H s'->Q (.bool (!o.isSome)) s'):
  wpAny (model X.prog X.w) A (compareOp .NotIn u (.ref a)) Q E s:=by
 rcases g with⟨f,k,e,i,l⟩|⟨f,k,b,e,i,n,l⟩
 ·subst i
  obtain⟨z,m,_,d,j⟩:=dk_rd I.hok e
  refine wpAny_notIn_of (kV_is ry) m j.mapOf ?_
  rw[<-(d.val k).isSome_eq,<-l]
  exact h _ (I.tok _)
 ·subst i
  cases ry
  obtain⟨z,m,_,d,j⟩:=dt_rd I.hok e
  refine wpAny_notIn_heap (tupleKind_room_in1 hu) (key_of I.hok n) m j ?_
  have q:=(d.val k).isSome_eq
  rw[Option.isSome_map]at q
  rw[<-q,<-l]
  exact h _ (I.tok _)
theorem d_write{h'}{t'}{ob}(I:Inv X pins σ H s)(mu:Mut (H a))(hs:Heap.SameBut a s.heap h')(he:∃q,h'.get? a=some q) (new:ObjOk X.prog X.w (upd H a ob) h' a ob):
  Inv X pins σ (upd H a ob) {s with heap:=h',toks:=t'}:=
 I.write mu (.inl rfl) (fun b q c z=>(hs.2 b c).trans z) he new
theorem dk_new{P}{w}{H'}{h'}{kvs}{vs}(z:kvs.length<=sizeLine)(hd:(a==sysModules)=false)(rel:KV kvs vs)(dd:h'.DictOf (mixKind P w) a vs):
  ObjOk P w H' h' a (.dK kvs):=⟨z,hd,vs,rel,dd⟩
theorem d_setItem{H'}{Q}(hu:A.units+1<cLine)(I:Inv X pins σ H s)(g:DPut H a y v H')(ry:RelV y u)(rv:RelV v r)(h:∀s',Inv X pins σ H' s'->Q () s'):
  wpAny (model X.prog X.w) A (setItem (.ref a) u r) Q E s:=by
 rcases g with⟨j,k,e,n,l,o⟩|⟨j,k,b,e,n,eb,l,o⟩
 ·subst n o
  obtain⟨z,B,vs,d,p⟩:=dk_of I.hok e
  exact wpAny_setItem_pairs (hsz:=(show vs.length<=sizeLine by rw[<-d.length];exact z)) (kV_is ry) p fun h' f x=>h _ (d_write I (by rw[e];exact True.intro) x (show∃q,h'.get? a=some q from let⟨q,_,_,m,_⟩:=f;⟨q,m⟩) (dk_new (show(putK _ k v).length<=sizeLine by have:=length_putK j k v;omega) B (d.put k rv) f))
 ·subst n o
  cases ry
  obtain⟨z,B,xs,d,p⟩:=dt_of I.hok e
  refine wpAny_setItem_heap (hsz:=(show xs.length<=sizeLine by rw[<-Paired.length d];exact z)) (tupleKind_room_in1 hu) (key_of I.hok eb) p fun h' f x=>h _ ?_
  obtain⟨q,es,ep,m,h2,h3,h4,_,h5⟩:=f
  refine d_write I (by rw[e];exact True.intro) x ⟨q,m⟩ ⟨(show(putK _ k v).length<=sizeLine by have:=length_putK j k v;omega),B,_,(d.put k eb rv).keeps fun c ys ec=>?_,q,es,ep,m,h2,h3,h4,h5⟩
  rw[upd_ne (ne_of ec e (fun z=>nomatch z))]
  exact ec
end
section
variable{X:Cx}{pins:List (Addr×Obj)}{σ:St}{H:Hp}{s:Shared}{a:Addr}{kvs:List (Key×V)}{k:Key}{u:Value}{A:Around}{E:Value->Shared->Prop}
theorem d_delItem{Q:Unit->Shared->Prop}(I:Inv X pins σ H s)(e:H a=some (.dK kvs))(ry:RelV (kV k) u)(l:(valV kvs k).isSome=true)(h:∀s',Inv X pins σ (upd H a (.dK (dropK kvs k))) s'->Q () s'):
  wpAny (model X.prog X.w) A (delItem (.ref a) u) Q E s:=by
 obtain⟨z,hd,vs,rel,dd⟩:=dk_of I.hok e
 refine wpAny_delItem_slot dd.typeIs (by decide) PySem.F.slot_dict_delitem
  (call_meetsIn PySem.F.slot_dict_delitem dd.typeIs PySem.F.entry_dict_delitem (PySem.F.args_dict_delitem_2 _ _) (meets_dict_delitem_pairs (mixKind X.prog X.w) a (kV_is ry)) ⟨vs,dd,by rw[<-rel.length];exact z,by rw[<-(rel.val k).isSome_eq];exact l,fun h' dd' hs=>h _ ?_⟩)
 have he:∃q,h'.get? a=some q:=let⟨q,_,_,hq,_⟩:=dd';⟨q,hq⟩
 exact d_write I (by rw[e];exact True.intro) hs he (dk_new (Nat.le_trans (dropK_le kvs k) z) hd (rel.drop k) dd')
theorem d_pop{v:V}{more:List Value}{Q:Value->Shared->Prop}(I:Inv X pins σ H s)(e:H a=some (.dK kvs))(ry:RelV (kV k) u)(l:valV kvs k=some v)(hm:more=[]\/∃x,more=[x])
  (h:∀w' s',Inv X pins σ (upd H a (.dK (dropK kvs k))) s'->RelV v w'->Q w' s'):wpAny (model X.prog X.w) A (call (.builtin "dict.pop") (.ref a::u::more)) Q E s:=by
 obtain⟨z,hd,vs,rel,dd⟩:=dk_of I.hok e
 obtain⟨w',hw,rw'⟩:=RelO.some_of (v:=v) (o:=valueAt vs k) (by rw[<-l];exact rel.val k)
 have hp:(keyPart u).isSome=true:=by
  cases k with
  |inl i=>obtain⟨t,q⟩:=(show∃t,u=Value.int i t from ry);subst q;rfl
  |inr x=>obtain⟨t,q⟩:=(show∃t,u=Value.str x t from ry);subst q;rfl
 have ha:argsOk "dict.pop" ⟨.ref a::u::more,[]⟩:=by
  rcases hm with q|⟨x,q⟩
  ·subst q;exact PySem.F.args_dict_pop_2 _ _
  ·subst q;exact PySem.F.args_dict_pop_3 _ _ _
 refine call_meetsIn PySem.F.slot_dict_pop dd.typeIs PySem.F.entry_dict_pop ha (meets_dict_pop_there (mixKind X.prog X.w) a (kV_is ry) more hm hp)
  ⟨vs,w',dd,by rw[<-rel.length];exact z,hw,fun h' dd' hs=>h w' _ ?_ rw'⟩
 have he:∃q,h'.get? a=some q:=let⟨q,_,_,hq,_⟩:=dd';⟨q,hq⟩
 exact d_write I (by rw[e];exact True.intro) hs he (dk_new (Nat.le_trans (dropK_le kvs k) z) hd (rel.drop k) dd')
theorem d_len{Q:Value->Shared->Prop}(I:Inv X pins σ H s)(e:Rd H a (.dK kvs))(h:∀t s',Inv X pins σ H s'->Q (.int kvs.length t) s'):wpAny (model X.prog X.w) A (call (.builtin "len") [.ref a]) Q E s:=by
 obtain⟨z,hd,vs,rel,dd⟩:=dk_rd I.hok e
 refine call_len_dict hd dd (by rw[<-rel.length];rw[sizeLine_eq]at z;omega) ?_
 rw[<-rel.length]
 exact h _ _ (I.tok _)
end
def NoSl(i:Expr):Prop:=∀ov iv,subscripted i false ov iv=operate [ov,iv] (getItem ov iv)
theorem subD_of{env}{value slice}{pos}{T id}{Q}
  (hl:typeLookup (.type T) "__getitem__"=pure (some (.builtin id)))(hs:NoSl slice)
  (h:wpAny (model prog w) A (eval value env) (fun o s₁=>wpAny (model prog w) A (eval slice env) (fun i s₂=>s₂.TypeIs o T/\wpAny (model prog w) A (getItem o i) Q E s₂) E s₁) E s):
  wpAny (model prog w) A (eval (.Subscript value slice pos) env) Q E s:=by
 refine Subscript_ (wpAny_mono h (fun o s₁ d=>wpAny_mono d (fun i s₂ a=>?_) fun _ _ x=>x) fun _ _ x=>x)
 obtain⟨e,a⟩:=a
 refine wpAny_bind (wpAny_bind (wpAny_specialOf e hl ?_))
 have b:wpAny (model prog w) A (subscripted slice false o i) (fun r c=>wpAny (model prog w) A (letTemporaryGo value o r>>=fun _=>pure r) Q E c) E s₂:=by
  rw[hs o i]
  exact wpAny_operating (wpAny_mono a (fun r c f=>wpAny_bind (wpAny_letTemporaryGo (wpAny_pure f))) fun _ _ x=>x)
 first
  |exact wpAny_pure (wpAny_bind b)
  |grind
  |grind
theorem dict_typeIs{σ:St}{H}{s}{a}{y}{o}(I:Inv X pins σ H s)(g:DGet H a y o):s.TypeIs (.ref a) "dict":=by
 rcases g with⟨c,k,e,_,_⟩|⟨c,k,b,e,_,_,_⟩
 ·obtain⟨_,_,_,_,d⟩:=dk_rd I.hok e
  exact d.typeIs
 ·obtain⟨_,_,_,_,d⟩:=dt_rd I.hok e
  exact d.typeIs
def tDGet(td ty:TE):TE:=fun σ H Q=>td σ H fun x H1=>ty σ H1 fun y H2=>∃a v,x= .ref a/\DGet H2 a y (some v)/\Q v H2
def tDIn(ty td:TE):TE:=fun σ H Q=>ty σ H fun y H1=>td σ H1 fun x H2=>∃a o,x= .ref a/\DGet H2 a y o/\Q (.bl o.isSome) H2
def tDNotIn(ty td:TE):TE:=fun σ H Q=>ty σ H fun y H1=>td σ H1 fun x H2=>∃a o,x= .ref a/\DGet H2 a y o/\Q (.bl (!o.isSome)) H2
def sDPut(td ty tv:TE):TS:=fun D σ H=>tv σ H fun v H1=>td σ H1 fun x H2=>ty σ H2 fun y H3=>∃a H4,x= .ref a/\DPut H3 a y v H4/\D.nx σ H4
section
variable{X:Cx}{o i e value:Expr}{pos pos' tpos:Pos}{td ty tv:TE}
theorem pe_dget(hu:X.A.units+1<cLine)(ho:PE X o td)(hi:PE X i ty)(hs:NoSl i):PE X (.Subscript o i pos) (tDGet td ty):=by
 refine fun b s σ H Q I h=>subD_of PySem.F.slot_dict_getitem.lookup hs (thn (ho b s σ H _ I h) fun u l⟨x,n,k,m,p⟩=>thn (hi b l σ n _ k p) fun _ _ xq1=>?_)
 obtain⟨y,q,d,e,a,v,f,g,r⟩:=xq1
 subst f
 obtain rfl:u=Value.ref a:=m
 exact⟨dict_typeIs d g,d_getItem hu d g e fun _ _ j c=>⟨v,q,j,c,r⟩⟩
theorem pc_din(hu:X.A.units+1<cLine)(hi:PE X i ty)(ho:PE X o td):PC X .In i o (tDIn ty td):=by
 refine fun b s σ H Q I h=>thn (hi b s σ H _ I h) fun _ p⟨y,n,k,c,e⟩=>thn (ho b p σ n _ k e) fun u _ xq1=>?_
 obtain⟨x,l,f,m,a,r,d,g,q⟩:=xq1
 subst d
 obtain rfl:u=Value.ref a:=m
 exact d_in hu f g c fun _ j=>⟨.bl r.isSome,l,j,rfl,q⟩
theorem pc_dnotin(hu:X.A.units+1<cLine)(hi:PE X i ty)(ho:PE X o td):PC X .NotIn i o (tDNotIn ty td):=by
 refine fun b s σ H Q I h=>thn (hi b s σ H _ I h) fun _ p⟨y,n,k,c,e⟩=>thn (ho b p σ n _ k e) fun u _ xq1=>?_
 obtain⟨x,l,f,m,a,r,d,g,q⟩:=xq1
 subst d
 obtain rfl:u=Value.ref a:=m
 exact d_notIn hu f g c fun _ j=>⟨.bl (!r.isSome),l,j,rfl,q⟩
theorem ps_dput(hu:X.A.units+1<cLine)(ho:PE X o td)(hi:PE X i ty)(hv:PE X value tv)(hs:swapsWith value (some (.Subscript o i pos')) pos.line X.env=pure false):
  PS X (.Assign [.Subscript o i pos'] value pos) (sDPut td ty tv):=by
 refine fun b s σ H D I h=>wpAny_Assign_Subscript (thn (hv b s σ H _ I h) fun r t⟨v,q,n,e,f⟩=>thn (ho b t σ q _ n f) fun u p⟨x,C,k,w,B⟩=>thn (hi b p σ C _ k B) fun _ _ xq1=>?_) hs
 obtain⟨y,_,m,c,a,l,d,g,z⟩:=xq1
 subst d
 obtain rfl:u=Value.ref a:=w
 exact d_setItem hu m g c e fun _ j=>⟨σ,l,j,z⟩
end
theorem dt_empty{P}{w}{H:Hp}(h:Heap)(hb:sysModules<h.objs.size):ObjOk P w H (h.push {cls:= .type "dict",data:= .dict #[]}) h.objs.size (.dT []):=
 ⟨Nat.zero_le _,beq_eq_false_iff_ne.mpr (Ne.symm (Nat.ne_of_lt hb)),[],.nil,_,_,0,Heap.get?_push_size _ rfl,⟨rfl,rfl,rfl⟩,rfl,rfl,List.nodup_nil⟩
def tDNewT:TE:=fun _ H Q=>∀p,H p=none->Q (.ref p) (upd H p (.dT []))
section
variable{X:Cx}{pos:Pos}
theorem pe_dnewT:PE X (.Dict [] [] pos) tDNewT:=fun _ s σ H Q I h=>
 wpAny_Dict_empty ⟨.ref s.heap.objs.size,_,I.laid (fun _ _ q=>Heap.get?_push_of_some _ q) (Nat.le_refl _) (dt_empty s.heap I.big),rfl,h _ (I.hok.fresh (Nat.le_refl _))⟩
end
structure M1(X:Cx)(o:Expr)(m:Str)(apos:Pos)(e:Expr)(cpos:Pos):Prop where
 base:attributeBase o m X.env (eval o X.env)=eval o X.env
 few:((backTo cpos (starEach [e] X.env)).all (fun x=> !x.1)&&(backToKw cpos (keywordEach [] X.env)).all (fun x=>x.1.isSome)
  &&decide (([e]:List Expr).length+([]:List Keyword).length+(if([]:List Keyword).isEmpty then 0 else 1)<30))=true
 line:(apos.endLine==cpos.line)=true
 trees:backTo cpos (starEach [e] X.env)=[(false,eval e X.env)]
structure M2(X:Cx)(o:Expr)(m:Str)(apos:Pos)(e f:Expr)(cpos:Pos):Prop where
 base:attributeBase o m X.env (eval o X.env)=eval o X.env
 few:((backTo cpos (starEach [e,f] X.env)).all (fun x=> !x.1)&&(backToKw cpos (keywordEach [] X.env)).all (fun x=>x.1.isSome)
  &&decide (([e,f]:List Expr).length+([]:List Keyword).length+(if([]:List Keyword).isEmpty then 0 else 1)<30))=true
 line:(apos.endLine==cpos.line)=true
 trees:backTo cpos (starEach [e,f] X.env)=[(false,eval e X.env),(false,eval f X.env)]
def IsD(H:Hp)(a:Addr):Prop:=(∃kvs,Rd H a (.dK kvs))\/∃kvs,Rd H a (.dT kvs)
theorem isD_at{X}{pins}{σ:St}{H}{s:Shared}{a:Addr}(I:Inv X pins σ H s)(d:IsD H a):
  s.TypeIs (.ref a) "dict"/\(∀b,Value.ref a= .ref b->∃ob,s.heap.get? b=some ob/\ob.dict=none)/\(a==sysModules)=false:=by
 rcases d with⟨h,e⟩|⟨h,e⟩
 ·obtain⟨_,g,_,_,c⟩:=dk_rd I.hok e
  refine⟨c.typeIs,fun b q=>?_,g⟩
  cases q
  obtain⟨ob,_,_,i,f,_⟩:=c
  exact⟨ob,i,f.2.1⟩
 ·obtain⟨_,g,_,_,c⟩:=dt_rd I.hok e
  refine⟨c.typeIs,fun b q=>?_,g⟩
  cases q
  obtain⟨ob,_,_,i,f,_⟩:=c
  exact⟨ob,i,f.2.1⟩
section
variable{X:Cx}{pins:List (Addr×Obj)}{σ:St}{H:Hp}{s:Shared}{a:Addr}{y d:V}{u r:Value}{o:Option V}{A:Around}{E:Value->Shared->Prop}
theorem d_get2{Q}(hu:A.units+1<cLine)(I:Inv X pins σ H s)(g:DGet H a y o)(ry:RelV y u)(rd:RelV d r)(h:∀w' s',Inv X pins σ H s'->RelV (o.getD d) w'->Q w' s'):
  wpAny (model X.prog X.w) A (call (.builtin "dict.get") [.ref a,u,r]) Q E s:=by
 rcases g with⟨n,k,e,m,l⟩|⟨n,k,b,e,m,t,l⟩
 ·subst m
  obtain⟨z,p,_,f,i⟩:=dk_rd I.hok e
  refine call_meetsIn PySem.F.slot_dict_get i.typeIs PySem.F.entry_dict_get (PySem.F.args_dict_get_3 _ _ _) (meets_dict_get_default (mixKind X.prog X.w) a (kV_is ry) p r) ⟨_,i.mapOf,h _ _ (I.tok _) ?_⟩
  rw[l]
  exact(f.val k).getD rd
 ·subst m
  cases ry
  obtain⟨z,p,q,f,i⟩:=dt_rd I.hok e
  refine call_meetsIn PySem.F.slot_dict_get i.typeIs PySem.F.entry_dict_get (PySem.F.args_dict_get_3 _ _ _) (meetsH_dict_get_default (tupleKind (mixKind X.prog X.w)) a b p r) ⟨tupleKind_room_in1 hu,k,q,key_of I.hok t,i,h _ _ (I.tok _) ?_⟩
  rw[l]
  exact(f.val k).getD rd
end
def tDGet2(td ty tx:TE):TE:=fun σ H Q=>td σ H fun x H1=>∃a,x= .ref a/\IsD H1 a/\ty σ H1 fun y H2=>tx σ H2 fun z H3=>∃o,DGet H3 a y o/\Q (o.getD z) H3
def tDPop1(td ty:TE):TE:=fun σ H Q=>td σ H fun x H1=>∃a,x= .ref a/\IsD H1 a/\ty σ H1 fun y H2=>∃kvs k v,H2 a=some (.dK kvs)/\y=kV k/\valV kvs k=some v/\Q v (upd H2 a (.dK (dropK kvs k)))
section
variable{X:Cx}{o e f:Expr}{apos cpos:Pos}{td ty tx:TE}
theorem pe_dget2(hu:X.A.units+1<cLine)(ho:PE X o td)(he:PE X e ty)(hf:PE X f tx)(m:M2 X o "get" apos e f cpos):PE X (.Call (.Attribute o "get" apos) [e,f] [] cpos) (tDGet2 td ty tx):=by
 refine fun i s σ H Q I h=>wpAny_Call_method m.base m.few m.line PySem.F.plainAttrs_dict PySem.F.slot_dict_get PySem.F.type_dict_get (thn (ho i s σ H _ I h) fun u l xq1=>?_)
 obtain⟨x,n,k,B,a,v,d,p⟩:=xq1
 subst v
 obtain rfl:u=Value.ref a:=B
 obtain⟨w,q,_⟩:=isD_at k d
 refine⟨w,q,?_⟩
 rw[m.trees]
 exact Calls.callWith_builtin rfl (Calls.evalArgs_plain (Calls.spliced_cons (thn (he i l σ n _ k p) fun _ G⟨y,M,K,D,C⟩=>
  Calls.spliced_cons (thn (hf i G σ M _ K C) fun _ _⟨z,r,J,E,_,g,L⟩=>Calls.spliced_nil (d_get2 hu J g D E fun _ _ t j=>⟨_,r,t,j,L⟩)))))
theorem pe_dpop1(ho:PE X o td)(he:PE X e ty)(m:M1 X o "pop" apos e cpos):PE X (.Call (.Attribute o "pop" apos) [e] [] cpos) (tDPop1 td ty):=by
 intro pins s σ H Q I h
 refine wpAny_Call_method m.base m.few m.line PySem.F.plainAttrs_dict PySem.F.slot_dict_pop PySem.F.type_dict_pop (thn (ho pins s σ H _ I h) fun u s1 xq1=>?_)
 obtain⟨x,H1,I1,rx,a,ex,d,q1⟩:=xq1
 subst ex
 obtain rfl:u=Value.ref a:=rx
 obtain⟨t1,t2,_⟩:=isD_at I1 d
 refine⟨t1,t2,?_⟩
 rw[m.trees]
 refine Calls.callWith_builtin rfl (Calls.evalArgs_plain (Calls.spliced_cons (thn (he pins s1 σ H1 _ I1 q1) fun iv s2⟨y,H2,I2,ry,kvs,k,v,ea,ey,l,q2⟩=>Calls.spliced_nil ?_)))
 subst ey
 exact d_pop I2 ea ry l (.inl rfl) fun w' s3 I3 rw'=>⟨v,_,I3,rw',q2⟩
end
section
variable{X:Cx}{pins:List (Addr×Obj)}{σ:St}{H:Hp}{s:Shared}{a:Addr}{kvs:List (Key×V)}{A:Around}{E:Value->Shared->Prop}
theorem d_copyOf{Q:Value->Shared->Prop}(I:Inv X pins σ H s)(e:Rd H a (.dK kvs))(h:∀p s',H p=none->Inv X pins σ (upd H p (.dK kvs)) s'->Q (.ref p) s'):wpAny (model X.prog X.w) A (call (.type "dict") [.ref a]) Q E s:=by
 obtain⟨z,hd,vs,rel,dd⟩:=dk_rd I.hok e
 refine kt_call_dict hd dd (by rw[<-rel.length];exact z) fun h' dd' hs=>?_
 refine h _ _ (I.hok.fresh (Nat.le_refl _)) (I.laid (a:=s.heap.objs.size) (o:= .dK kvs) (t':=s.toks) (fun b q hq=>?_) (Nat.le_refl _) (dk_new z (beq_eq_false_iff_ne.mpr (Ne.symm (Nat.ne_of_lt I.big))) rel dd'))
 exact(hs.2 b (Nat.ne_of_lt (Heap.lt_size hq))).trans (Heap.get?_push_of_some _ hq)
end
section
variable{X:Cx}
theorem call_lenD:CallR X (.builtin "len") (fun xs H Q=>∃a kvs,xs=[V.ref a]/\H a=some (.dK kvs)/\Q (.int kvs.length) H):=by
 intro pins s σ H xs us Q I r h
 obtain⟨a,kvs,rfl,ha,q⟩:=h
 obtain⟨u,rfl,ru⟩:=vals1 r
 cases ru
 exact d_len I (.inl ha) fun t s' I'=>⟨.int kvs.length,H,I',⟨t,rfl⟩,q⟩
end
section
variable{κ:Type}[DecidableEq κ]
theorem valV_in{kvs:List (κ×V)}{k:κ}{v:V}(h:valV kvs k=some v):k∈kvs.map (·.1):=by
 have q:(kvs.any fun kv=>decide (kv.1=k))=true:=by
  rw[valV_any,h]
  all_goals rfl
 obtain⟨p,hp,e⟩:=List.any_eq_true.mp q
 exact List.mem_map.mpr ⟨p,hp,of_decide_eq_true e⟩
end
end L2
namespace L2
open PySem PySem.Spec PyProof.Rows PySem.SeqAt
def nIs:Option Int->Value->Bool
 |Option.none,Value.none=>true
 |some k,v=>Value.isInt k v
 |_,_=>false
def nH:Option Int->Int
 |Option.none=>0xFCA86420
 |some k=>hashInt k
theorem nIs_shape{k}{v}(h:nIs k v=true):(k=Option.none/\v=Value.none)\/∃i t,k=some i/\v=Value.int i t:=by
 cases k with
 |none=>
  cases v<;>first|grind|cases h
 |some i=>
  obtain⟨t,e⟩:=Value.isInt_shape h
  exact .inr ⟨i,t,rfl,e⟩
section
variable{prog:Program}{w:World}{A:Around}{E:Value->Shared->Prop}{s:Shared}
theorem pyHash_none{Q}(h:Q 0xFCA86420 {s with toks:=s.toks+1}):wpAny (model prog w) A (pyHash .none) Q E s:=by
 have a:s.TypeIs .none _:=rfl
 unfold pyHash
 have _:[Value.none].any Value.onHeap=_:=rfl
 refine wpAny_bind (wpAny_pure (wpAny_bind (wpAny_specialOf a F.slot_NoneType_hash.lookup ?_)))
 refine wpAny_bind (wpAny_specialOf a F.slot_NoneType_hash.lookup (wpAny_bind (wpAny_callSpecialIfBoundUnlessNone?_slot a F.slot_NoneType_hash
  (wpAny_call_entry F.slot_NoneType_hash a F.entry_NoneType_hash
   (wpAny_ret_mkInt ?_) (F.args_NoneType_hash_1 _)))))
 exact wpAny_pure h
end
def nKind(prog)(w):PySem.KeyKind prog w (Option Int)where
 is:=nIs
 hash:=nH
 inj:=fun v a b ha hb=>by
  rcases nIs_shape ha with⟨rfl,rfl⟩|⟨i,t,rfl,rfl⟩
  ·rcases nIs_shape hb with⟨rfl,_⟩|⟨j,u,rfl,e⟩
   ·rfl
   ·cases e
  ·rcases nIs_shape hb with⟨rfl,e⟩|⟨j,u,rfl,e⟩
   ·cases e
   ·injection e with e1 _;rw[e1]
 byValue:=fun k v h=>by
  rcases nIs_shape h with⟨rfl,rfl⟩|⟨i,t,rfl,rfl⟩<;>rfl
 pyHash:=fun hv h=>by
  rcases nIs_shape hv with⟨rfl,rfl⟩|⟨i,t,rfl,rfl⟩
  ·exact pyHash_none h
  ·exact wpAny_pyHash_int h
 eqBool:=fun{A E s a b u v Q} hu hv h=>by
  rcases nIs_shape hu with⟨rfl,rfl⟩|⟨i,t,rfl,rfl⟩
  ·rcases nIs_shape hv with⟨rfl,rfl⟩|⟨j,u,rfl,rfl⟩
   ·exact EqAt.same _ _ _ _ _ (by simpa using h)
   ·exact EqAt.none_int j u _ _ _ _ (by simpa using h)
  ·rcases nIs_shape hv with⟨rfl,rfl⟩|⟨j,u,rfl,rfl⟩
   ·exact EqAt.int_none i t _ _ _ _ (by simpa using h)
   ·have e:decide (some i=some j)=(i==j):=by
     by_cases z:i=j
     ·subst z;simp
     ·rw[decide_eq_false (fun q=>z (Option.some.inj q))];exact(beq_eq_false_iff_ne.mpr z).symm
    rw[e]at h
    exact wpAny_eqBool_int h
 «strs»:=fun k x t v h=>by
  rcases nIs_shape h with⟨rfl,e⟩|⟨i,u,rfl,e⟩
  ·cases e
  ·cases e
end L2
namespace PySem
open Sem (wp)
theorem lk_list_keys:typeLookup (.type "list") "keys"=pure none:=by kernel_rfl
section
variable{prog:Program}{w:World}{A:Around}{E:Value->Shared->Prop}{s:Shared}
theorem keys_miss_list{a}{o}{xs}{k}{Q:Option _->Shared->Prop}(hx:s.heap.get? a=some o)(hc:o.cls= .type "list")(hdat:o.data= .seq xs k)(hd:o.dict=none)(hA:A.handled=none)
  (h:∀h' tk,(∀b o,s.heap.get? b=some o->h'.get? b=some o)->Q none {s with heap:=h',toks:=tk}):wpAny (model prog w) A (getAttr? (.ref a) "keys") Q E s:=by
 obtain⟨c,dct,dat,sl⟩:=o
 subst hc hdat hd
 obtain⟨hp,g,d,tk,os⟩:=s
 have hT:∀i,(⟨hp,g,d,i,os⟩:Shared).TypeIs (.ref a) "list":=fun _=>⟨_,hx,rfl⟩
 have f1:=sub_AttributeError
 have f3:=F.slot_list_getattribute.lookup
 have f4:=F.slot_list_getattribute.bind (.ref a)
 have f5:=am_list_getattr_none
 have hm:=lk_list_keys
 unfold getAttr? getAttrBy? getAttrBy
 repeat (any_goals (first|assumption|exact hT _|((with_reducible show wpAny _ _ (call (Value.builtin "list.__getattribute__") _ _) _ _ _);refine call_meets F.slot_list_getattribute (hT _) am_entry_list_getattribute (F.args_list_getattribute_2 _ _) (meets_getattribute_miss_list a xs k sl "keys" _ hm (by decide+kernel) (by size_fits)) ⟨hx,hA,fun h' i e hx'=>?_⟩)|wp_step))
 obtain⟨t',u',he⟩:=hx'.there
 have hTe:∀i,(⟨h',g,d,i,os⟩:Shared).TypeIs (.ref e) "AttributeError":=fun _=>⟨_,he,rfl⟩
 unfold getattributeRaised
 repeat (any_goals (first|assumption|exact hTe _|wp_step))
 exact h _ _ hx'.keeps
end
end PySem
namespace DictL
open PySem PySem.Spec PyProof.Rows
theorem entry_loop:entryFor table "dict.update.loop"=some Builtin.«dict.update.loop»:=entryFor_of_tree (by kernel_rfl)
theorem plain_loop:plainId "dict.update.loop"=true:=by decide+kernel
section
variable{prog:Program}{w:World}{K:Type}[DecidableEq K]{knd:KeyKind prog w K}{A:Around}{R:Result->Shared->Prop}{I:Addr}{fp wr:List Addr}{G:Array GenState->Array GenState->Prop}{n:Nat}{P:Nat->Value->Prop}{St:Nat->Shared->Prop}
def upTo(kv:Nat->K×Value)(i:Nat):List (K×Value):=((List.range i).map kv).foldl (fun acc p=>stored acc p.1 p.2) []
theorem upTo_succ(kv:Nat->K×Value)(i):upTo kv (i+1)=stored (upTo kv i) (kv i).1 (kv i).2:=by
 unfold upTo;rw[List.range_succ,List.map_append,List.foldl_append];rfl
theorem stored_len(kvs)(k:K)(v):(stored kvs k v).length<=kvs.length+1:=by
 unfold stored
 split
 ·simp
 ·simp_all
theorem upTo_len(kv:Nat->K×Value):∀i,(upTo kv i).length<=i
 |0=>Nat.le_refl _
 |i+1=>by
  rw[upTo_succ]
  have:=upTo_len kv i
  have:=stored_len (upTo kv i) (kv i).1 (kv i).2
  omega
def PairAt(knd:KeyKind prog w K)(h:Heap)(b:Addr)(p:K×Value):Prop:=∃o key m,h.get? b=some o/\o.cls= .type "tuple"/\o.data= .seq #[key,p.2] m/\knd.is p.1 key=true
theorem loop(W:WalksS prog w A.in1 I fp wr G n P St)(D)(hDf:D ∉ fp)(kv)(hb:n<=1000):
  ∀(k i)(s),n-i=k->i<=n->St i s->(∀(j) v,P j v->∃b,v= .ref b/\PairAt knd s.heap b (kv j)/\b ∉ D::wr)->
   s.heap.DictOf knd D (upTo kv i)->
   (∀s',Moved (D::wr) G s s'->s'.heap.DictOf knd D (upTo kv n)->R (.ok (.ret .none)) s')->
   codeAny (model prog w) A (.builtin "dict.update.loop" ⟨[.ref D,.ref I,rawInt i,.none],[]⟩) R s:=by
 have a:∀b∈wr,b∈D::wr:=fun b hb=>List.mem_cons_of_mem _ hb
 have d:∀{s s':Shared}{f:List _},(∀b o,b ∉ wr->s.heap.get? b=some o->s'.heap.get? b=some o)->s.heap.DictOf knd D f->s'.heap.DictOf knd D f:=by
  intro s s' f hk hS
  obtain⟨o,es,ep,ho,r⟩:=hS
  exact⟨o,es,ep,hk D o (fun h=>hDf (W.sub _ h)) ho,r⟩
 intro k
 induction k with
 |zero=>
  intro i s hk hi q hv hS hR
  have hin:i=n:=by omega
  subst hin
  exact codeAny_builtin entry_loop (wpAny_bind (W.done s _ _ q fun s' l=>wpAny_bind (wpAny_pure (wpAny_pure (hR s' (l.mono a) (d l.heap hS))))))
 |succ k ih=>
  intro i s hk hi q hv hS hR
  have t:i<n:=by omega
  refine codeAny_builtin entry_loop (wpAny_bind (W.item i s _ _ t q fun v s' hP hst' l=>?_))
  obtain⟨b,rfl,hp,hbn⟩:=hv i v hP
  obtain⟨o,key,m,ho,hc,hd,hk'⟩:=hp
  have ho':=l.heap b o (fun z=>hbn (a b z)) ho
  refine wpAny_bind (wpAny_holding (wpAny_bind (wpAny_tryCatch ?_)))
  unfold Builtin.Dict.pairItems
  refine wpAny_bind (wpAny_typeOf (show s'.TypeIs (.ref b) "tuple" from⟨o,ho',hc⟩) ?_)
  rw[if_pos (by decide)]
  refine wpAny_bind (wpAny_seqItems ho' hd (wpAny_pure (wpAny_holding ?_)))
  have hlen:=upTo_len kv i
  refine wpAny_dictSet_pairs (hsz:=L2.leMil (by omega)) hk' (d l.heap hS) fun h' hD' g=>?_
  rw[<-upTo_succ]at hD'
  refine wpAny_pure ⟨plainId_quiet plain_loop _,ih (i+1) _ (by omega) t (W.frame _ s' _ _ hst' (Nat.le_add_right _ _) fun c x o' e=>?_) (fun j v hj=>?_) hD' fun s'' hm'' hS''=>?_⟩
  ·rw[g.2 c (fun h:c=D=>hDf (by grind))];exact e
  ·obtain⟨b2,e2,⟨ob,key2,m2,h1,h2⟩,p⟩:=hv j v hj
   exact⟨b2,e2,⟨ob,key2,m2,(g.2 b2 (fun h:b2=D=>p (by grind))).trans (l.heap b2 ob (fun z=>p (a b2 z)) h1),h2⟩,p⟩
  ·refine hR s'' (Moved.trans W.gtrans ((l.mono a).then_heap (Nat.le_add_right _ _) fun c o' x e=>?_) hm'') hS''
   rw[g.2 c (fun h:c=D=>x (by grind))];exact e
end
section
variable{prog:Program}{w:World}{K:Type}[DecidableEq K]{knd:KeyKind prog w K}{A:Around}{E:Value->Shared->Prop}{s:Shared}
theorem call_dict_list{l}{items}{kv}{Q}(hh:A.handled=none)(hl:∃o m,s.heap.get? l=some o/\o.cls= .type "list"/\o.dict=none/\o.data= .seq items m)
  (hi:∀(i:Nat)(v:Value),items[i]?=some v->∃b,v= .ref b/\PairAt knd s.heap b (kv i)) (hb:items.size<=1000)
  (h:∀(h':Heap)(tk:Nat),h'.DictOf knd s.heap.objs.size (upTo kv items.size)->(∀b o,s.heap.get? b=some o->h'.get? b=some o)->Q (.ref s.heap.objs.size) {s with heap:=h',toks:=tk}):
  wpAny (model prog w) A (call (.type "dict") [.ref l]) Q E s:=by
 obtain⟨ol,ml,t,n,hdl,q⟩:=hl
 refine callType_codes (Q₁:=fun u s₁=>u= .ref s.heap.objs.size/\s₁={s with heap:=s.heap.push {cls:= .type "dict",data:= .dict #[]}}) F.kt_called_dict (F.kt_typeCall_dict_1 _) F.entry_dict_init (kt_code_dict_new _ ⟨rfl,rfl⟩) ?_
 rintro u s₁ ⟨rfl,rfl⟩
 have a:(s.heap.push {cls:= .type "dict",data:= .dict #[]}).DictOf knd s.heap.objs.size []:=Heap.DictOf.new s.heap
 have d:(s.heap.push {cls:= .type "dict",data:= .dict #[]}).get? l=some ol:=Heap.get?_push_of_some _ t
 refine⟨a.typeIs,F.args_dict_init_2 _ _,wpAny_bind ?_⟩
 refine wpAny_bind (wpAny_notOrdered_dict a.typeIs (wpAny_pure (wpAny_bind (wpAny_typeOf ⟨ol,d,n⟩ (wpAny_bind (keys_miss_list d n q hdl (by simp[hh]) fun D tk1 G=>wpAny_bind (wpAny_rule ?_)))))))
 have g:=G _ _ d
 have B:D.IsList l items:=⟨ol,g,n,ml,q⟩
 refine wpAny_bind (wpAny_pyIter_list B ?_)
 have y:s.heap.objs.size<D.objs.size:=by
  obtain⟨o,_,_,ho,_⟩:=a
  exact Heap.lt_size (G _ _ ho)
 have up:∀b o,s.heap.get? b=some o->(D.push {cls:= .type "list_iterator",data:= .fields #[.ref l,.int 0 0]}).get? b=some o:=fun b o e=>Heap.get?_push_of_some _ (G _ _ (Heap.get?_push_of_some _ e))
 refine wpAny_pure ⟨plainId_quiet plain_loop _,loop (knd:=knd) ((Walks.list (show A.in1.in1.handled=none by simp[hh]) D.objs.size l (Nat.ne_of_lt (Heap.lt_size g)) items).toS) s.heap.objs.size ?hf kv hb (items.size-0) 0 _ (by omega) (Nat.zero_le _)
  ⟨⟨_,Heap.get?_push_size _ rfl,rfl,rfl⟩,(B.push _)⟩ (fun i v hv=>?z) ?hS0 ?hR⟩
 case hf=>
  simp[List.mem_cons,List.mem_singleton,List.not_mem_nil,or_false,not_or]
  exact⟨Nat.ne_of_lt y,Nat.ne_of_gt (Heap.lt_size t)⟩
 case z=>
  obtain⟨b,e,o,key,m,p,h2'⟩:=hi i v hv
  have j:=Heap.lt_size p
  refine⟨b,e,⟨o,key,m,up _ _ p,h2'⟩,?_⟩
  simp[List.mem_cons,List.mem_singleton,List.not_mem_nil,or_false,not_or]
  exact⟨Nat.ne_of_lt j,Nat.ne_of_lt (Nat.lt_trans j y)⟩
 case hS0=>
  obtain⟨o,es,ep,ho,r⟩:=a
  exact⟨o,es,ep,Heap.get?_push_of_some _ (G _ _ ho),r⟩
 case hR=>
  intro s' C hS'
  obtain⟨h',g',d',tk',os'⟩:=s'
  have eg:=C.gens
  have ed:=C.drawn
  have eo:=C.os
  subst eg;subst ed;subst eo
  refine⟨rfl,h h' tk' hS' fun b o e=>?_⟩
  have j:=Heap.lt_size e
  exact C.heap b o (by grind) (up b o e)
end
end DictL
namespace L2
open PySem PySem.Spec PyProof.Rows
def nV:Option Int->V
 |Option.none=> .non
 |some i=> .int i
theorem nV_is{P}{w}{k}{u}(r:RelV (nV k) u):(nKind P w).is k u=true:=by
 cases k with
 |none=>cases r;rfl
 |_ i=>
  obtain⟨t,rfl⟩:=r
  show Value.isInt i (.int i t)=true
  simp[Value.isInt]
def dnHO(P:Program)(w:World)(a:Addr)(kvs:List (Option Int×V)):HO:= .ext fun h=>kvs.length<=sizeLine/\(a==sysModules)=false/\∃vs,KV kvs vs/\h.DictOf (nKind P w) a vs
theorem dn_ok{P}{w}{H}{h}{a}{kvs}{vs}(z:kvs.length<=sizeLine)(hd:(a==sysModules)=false)(rel:KV kvs vs)(dd:h.DictOf (nKind P w) a vs):ObjOk P w H h a (dnHO P w a kvs):=by
 refine⟨⟨z,hd,vs,rel,dd⟩,let⟨o,_,_,b,_⟩:=dd;⟨o,b⟩,fun _ _ x k=>?_⟩
 obtain⟨e,g,_,c,o,f,d,b,r⟩:=x
 exact⟨e,g,_,c,o,f,d,k o b,r⟩
section
variable{X:Cx}
theorem dn_of{pins}{σ:St}{H}{s}{a}{kvs}(I:Inv X pins σ H s)(e:H a=some (dnHO X.prog X.w a kvs)):kvs.length<=sizeLine/\(a==sysModules)=false/\∃vs,KV kvs vs/\s.heap.DictOf (nKind X.prog X.w) a vs:=(I.hok a _ e).1
def tDNotInN(P:Program)(w:World)(ty td:TE):TE:=fun σ H Q=>ty σ H fun y H1=>td σ H1 fun x H2=>∃a kvs k,x= .ref a/\y=nV k/\H2 a=some (dnHO P w a kvs)/\Q (.bl (!(valV kvs k).isSome)) H2
theorem pc_dnotinN{i o}{ty td}(hi:PE X i ty)(ho:PE X o td):PC X .NotIn i o (tDNotInN X.prog X.w ty td):=by
 refine fun b s σ H Q I h=>thn (hi b s σ H _ I h) fun _ l⟨y,p,m,g,q⟩=>thn (ho b l σ p _ m q) fun u _ xq1=>?_
 obtain⟨x,t,f,v,a,d,k,B,n,e,A⟩:=xq1
 subst B n
 obtain rfl:u=Value.ref a:=v
 obtain⟨z,r,_,c,j⟩:=dn_of f e
 refine wpAny_notIn_of (nV_is g) r j.mapOf ?_
 rw[<-(c.val k).isSome_eq]
 exact⟨.bl (!(valV d k).isSome),t,f.tok _,rfl,A⟩
def fromPairs(ps:List (Option Int×V)):List (Option Int×V):=ps.foldl (fun acc p=>putK acc p.1 p.2) []
inductive rDictN(P:Program)(w:World)(K:PySem.W.Frag)(xs:List V)(H:Hp)(Q:VK):Prop
 |mk (p ys:_) (ps:List (Option Int×V)) (_:xs=[.ref p]) (_:SqL K H p ys) (_:ys.length=ps.length) (_:ys.length<=1000) (_:(∀(i:Nat) y pr,ys[i]?=some y->ps[i]?=some pr->∃b,y= .ref b/\H b=some (.tup [nV pr.1,pr.2]))) (_:∀q H',Same H H'->H' q=some (dnHO P w q (fromPairs ps))->Q (.ref q) H')
theorem fromPairs_len(ps):(fromPairs ps).length<=ps.length:=by
 have b:∀(ps a:List (Option Int×V)),(ps.foldl (fun a p=>putK a p.1 p.2) a).length<=a.length+ps.length:=by
  intro ps
  induction ps with
  |nil=>simp_all
  |_ p ps c=>
   intro a
   have _:=c (putK a p.1 p.2)
   have _:=length_putK a p.1 p.2
   grind
 have:=b ps []
 simpa[fromPairs]using this
theorem fromPairs_kv{ps:List _}{kv}(h:∀i,(hi:i<ps.length)->(kv i).1=ps[i].1/\RelV ps[i].2 (kv i).2):∀n,n<=ps.length->KV (fromPairs (ps.take n)) (DictL.upTo kv n)
 |0,_=> .nil
 |n+1,_=>by
  obtain⟨a,b⟩:=h n (by assumption)
  rw[List.take_add_one,List.getElem?_eq_getElem (by trivial),DictL.upTo_succ]
  unfold fromPairs
  rw[List.foldl_append,a]
  exact(fromPairs_kv h n (by omega)).put _ b
theorem call_dictN{k}(hr:Room k X.A):CallR X (.type "dict") (rDictN X.prog X.w X.K):=by
 intro pins s σ H xs us Q I r h
 obtain⟨p,ys,c,rfl,hp,hlen,h1000,hk,q⟩:=h
 obtain⟨u,rfl,rx⟩:=vals1 r
 cases rx
 obtain⟨vs,rv,pl,hz⟩:=I.list hp
 have hvl:=rv.length
 have ex:∀i:Nat,∃m,∀(e),m.1=c[i].1/\RelV c[i].2 m.2/\∀v,vs[i]?=some v->∃b,v= .ref b/\DictL.PairAt (nKind X.prog X.w) _ b m:=fun i=>by
  by_cases e:i<c.length
  ·have hy:ys[i]?=some _:=List.getElem?_eq_getElem (by omega)
   obtain⟨b,eb,hb⟩:=hk i _ _ hy (List.getElem?_eq_getElem e)
   obtain⟨u2,e2,r2⟩:=rv.get hy
   obtain⟨_,its,ri,o,ho,x,n,hd⟩:=I.hok b _ hb
   obtain⟨u1,u3,rfl,ra,rb⟩:=vals2 ri
   refine⟨(c[i].1,u3),fun _=>⟨rfl,rb,fun v t=>?_⟩⟩
   rw[t]at e2
   cases e2
   rw[eb]at r2
   exact⟨b,r2,o,u1,n,ho,x,hd,nV_is ra⟩
  ·exact⟨(none,.none),fun h=>absurd h e⟩
 obtain⟨kv,g⟩:=Classical.axiomOfChoice ex
 obtain⟨o,n,ho,x,l,hd⟩:=pl
 refine DictL.call_dict_list (knd:=nKind X.prog X.w) (kv:=kv) hr.hd ⟨o,n,ho,x,l,hd⟩ (fun i v t=>?_) (by grind) fun h' tk hD kp=>?_
 ·have hv':vs[i]?=some v:=by simpa using t
  grind
 ·rw[(show vs.toArray.size=c.length by simp_all)]at hD
  have j:=fromPairs_kv (fun i e=>⟨(g i e).1,(g i e).2.1⟩) _ (Nat.le_refl _)
  rw[List.take_length]at j
  have hlp:=fromPairs_len c
  exact⟨.ref s.heap.objs.size,_,I.laid (o:=dnHO X.prog X.w s.heap.objs.size (fromPairs c)) kp (Nat.le_refl _) (dn_ok (leMil (by omega)) (beq_eq_false_iff_ne.mpr (Ne.symm (Nat.ne_of_lt I.big))) j hD),rfl,q _ _ (same_add (I.hok.fresh (Nat.le_refl _))) upd_same⟩
theorem fromPairs_in(ps)(k):(valV (fromPairs ps) k).isSome=true↔∃p∈ps,p.1=k:=by
 have c:∀(ps a:List (Option Int×V)),(valV (ps.foldl (fun a p=>putK a p.1 p.2) a) k).isSome=true↔(valV a k).isSome=true\/∃p∈ps,p.1=k:=by
  intro ps
  induction ps with
  |nil=>simp_all
  |_ p ps f=>
   intro a
   show(valV (ps.foldl (fun a p=>putK _ _ _) _) k).isSome=true↔_
   rw[f,valV_put]
   by_cases e:k=p.1
   ·simp_all
   ·rw[if_neg e]
    constructor
    ·rintro(h|⟨q,d,g⟩)
     ·exact .inl h
     ·exact .inr ⟨q,.tail _ d,g⟩
    ·grind
 have:=c ps []
 rw[show(fromPairs ps)=ps.foldl (fun a p=>putK _ _ _) []from rfl,this]
 exact⟨fun h=>h.elim (fun z=>by cases z) id,.inr⟩
end
theorem same_new{H:Hp}{d:Addr}{o:HO}(h:H d=Option.none):Same H (upd H d o):=fun b u e=>by rw[upd_ne (ne_of_none e h)];exact e
theorem Same.none{H H':Hp}(s:Same H H'){d:Addr}(h:H' d=Option.none):H d=Option.none:=by
 cases z:H d with
 |none=>rfl
 |some o=>rw[s d o z]at h;cases h
theorem Same.wr{H H':Hp}(s:Same H H'){d:Addr}{o:HO}(h:H d=Option.none):Same H (upd H' d o):=fun b u e=>by rw[upd_ne (ne_of_none e h)];exact s b u e
end L2
namespace My
open PySem L2
theorem bLen:bootBuiltins "len"=some (.builtin "len"):=by decide+kernel
theorem bIsi:bootBuiltins "isinstance"=some (.builtin "isinstance"):=by decide+kernel
theorem bInt:bootBuiltins "int"=some (.type "int"):=by decide+kernel
theorem bBool:bootBuiltins "bool"=some (.type "bool"):=by decide+kernel
theorem bTuple:bootBuiltins "tuple"=some (.type "tuple"):=by decide+kernel
theorem bList:bootBuiltins "list"=some (.type "list"):=by decide+kernel
theorem bMax:bootBuiltins "max"=some (.builtin "max"):=by decide+kernel
theorem bMin:bootBuiltins "min"=some (.builtin "min"):=by decide+kernel
theorem bDict:bootBuiltins "dict"=some (.type "dict"):=by decide+kernel
structure Bi(mg:Str->Option Value):Prop where
 len:mg "len"=none
 isi:mg "isinstance"=none
 int:mg "int"=none
 bool:mg "bool"=none
 tuple:mg "tuple"=none
 list:mg "list"=none
 range:mg "range"=none
 max:mg "max"=none
 min:mg "min"=none
 zip:mg "zip"=none
 dict:mg "dict"=none
theorem kit(K:PySem.W.Frag)(T U:String)(b:Bool)(h:PySem.W.kitOne [] (.type T) (.type U)=some b):PySem.W.kitOne K (.type T) (.type U)=some b:=h
def TieOk(H:Hp)(n:Int)(t:V):Prop:=∃q i j,t=V.ref q/\H q=some (.tup [.int i,.int j])/\0<=i/\i<n/\0<=j/\j<n/\i≠j
def Ties(H:Hp)(n:Int)(ts:List V):Prop:=∀t∈ts,TieOk H n t
theorem TieOk.same{H H':Hp}{n:Int}{t:V}(h:TieOk H n t)(k:Same H H'):TieOk H' n t:=let⟨q,i,j,a,b,c⟩:=h;⟨q,i,j,a,k _ _ b,c⟩
theorem Ties.same{H H':Hp}{n:Int}{ts:List V}(h:Ties H n ts)(k:Same H H'):Ties H' n ts:=fun t ht=>(h t ht).same k
structure NetZ(H:Hp)(p:Addr)(n:Nat)(q:Addr)(ts:List V)(es:List (Nat×Nat)):Prop where
 e1:H p=some (.tup [.int (n:Int),.ref q])
 e2:H q=some (.tup ts)
 len:ts.length=es.length
 tie:∀(i:Nat) t,ts[i]?=some t->∃a,t=V.ref a/\H a=some (.tup [.int ((es.getD i (0,0)).1:Int),.int ((es.getD i (0,0)).2:Int)])
 l200:es.length<=200
 n60:n<=60
 ok:∀e∈es,e.1<n/\e.2<n/\e.1≠e.2
theorem NetZ.same{H H':Hp}{p q:Addr}{n:Nat}{ts:List V}{es:List (Nat×Nat)}(h:NetZ H p n q ts es)(k:Same H H'):NetZ H' p n q ts es:=
 ⟨k _ _ h.e1,k _ _ h.e2,h.len,fun i t e=>let⟨a,x,y⟩:=h.tie i t e;⟨a,x,k _ _ y⟩,h.l200,h.n60,h.ok⟩
theorem getD_mem{es:List (Nat×Nat)}{k:Nat}(h:k<es.length):es.getD k (0,0)∈es:=by rw[List.getD_eq_getElem?_getD,List.getElem?_eq_getElem h];exact List.getElem_mem h
theorem NetZ.at'{H:Hp}{p q:Addr}{n:Nat}{ts:List V}{es:List (Nat×Nat)}(h:NetZ H p n q ts es){k:Nat}(hk:k<es.length):∃a,ts[k]?=some (.ref a)/\H a=some (.tup [.int ((es.getD k (0,0)).1:Int),.int ((es.getD k (0,0)).2:Int)]):=by
 have hk':k<ts.length:=by rw[h.len];exact hk
 obtain⟨a,x,y⟩:=h.tie k _ (List.getElem?_eq_getElem hk')
 exact⟨a,by rw[List.getElem?_eq_getElem hk',x],y⟩
def nl(l:List Nat):List V:=l.map fun x:Nat=>V.int (x:Int)
theorem nl_get{l:List Nat}{i x:Nat}(h:l[i]?=some x):(nl l)[i]?=some (.int (x:Int)):=by unfold nl;rw[List.getElem?_map,h];rfl
theorem nl_len(l:List Nat):(nl l).length=l.length:=by unfold nl;rw[List.length_map]
def tN:Option Nat->V
 |none=> .non
 |some t=> .int (t:Int)
def tv(tl:List (Option Nat)):List V:=tl.map tN
theorem tv_len(tl:List (Option Nat)):(tv tl).length=tl.length:=by unfold tv;rw[List.length_map]
theorem tv_get{tl:List (Option Nat)}{i:Nat}{o:Option Nat}(h:tl[i]?=some o):(tv tl)[i]?=some (tN o):=by unfold tv;rw[List.getElem?_map,h];rfl
theorem tv_inv{tl:List (Option Nat)}{i:Nat}{x:V}(h:(tv tl)[i]?=some x):∃o,tl[i]?=some o/\x=tN o:=by
 unfold tv at h
 rw[List.getElem?_map]at h
 cases e:tl[i]? with
 |none=>rw[e]at h;cases h
 |some o=>rw[e]at h;cases h;exact⟨o,rfl,rfl⟩
theorem tN_nV(o:Option Nat):tN o=nV (o.map fun t:Nat=>(t:Int)):=by cases o<;>rfl
def At(e:Nat×Nat)(p:Nat):Prop:=p=e.1\/p=e.2
def Used(es:List (Nat×Nat))(tl:List (Option Nat))(k p t:Nat):Prop:=∃j,j<k/\tl[j]?=some (some t)/\At (es.getD j (0,0)) p
def CleanTo(es:List (Nat×Nat))(tl:List (Option Nat))(k:Nat):Prop:=∀i j t,j<i->i<k->tl[i]?=some (some t)->tl[j]?=some (some t)->∀p,At (es.getD i (0,0)) p->¬At (es.getD j (0,0)) p
theorem CleanTo.zero(es)(tl):CleanTo es tl 0:=fun i j t _ h=>absurd h (Nat.not_lt_zero _)
theorem Used.zero{es}{tl}{p t}:¬Used es tl 0 p t:=fun⟨j,h,_⟩=>absurd h (Nat.not_lt_zero _)
theorem Used.succ{es}{tl}{k p t}:Used es tl (k+1) p t↔Used es tl k p t\/(tl[k]?=some (some t)/\At (es.getD k (0,0)) p):=by
 constructor
 ·rintro⟨j,h,a,b⟩
  by_cases e:j=k
  ·simp_all
  ·exact .inl ⟨j,by omega,a,b⟩
 ·rintro(⟨j,h,a,b⟩|⟨a,b⟩)
  ·exact⟨j,by omega,a,b⟩
  ·exact⟨k,by simp,a,b⟩
theorem CleanTo.succ{es}{tl}{k}(h:CleanTo es tl k)(hk:∀t,tl[k]?=some (some t)->∀p,At (es.getD k (0,0)) p->¬Used es tl k p t):CleanTo es tl (k+1):=by
 intro i j t c _ f d p a b
 by_cases e:i=k
 ·subst e
  exact hk t f p a ⟨j,c,d,b⟩
 ·exact h i j t c (by omega) f d p a b
theorem CleanTo.not{es}{tl}{k p t}{n}(hk:k<n)(h1:tl[k]?=some (some t))(hp:At (es.getD k (0,0)) p)(hu:Used es tl k p t):¬CleanTo es tl n:=fun h=>by
 obtain⟨j,a,c,b⟩:=hu
 exact h k j t a hk h1 c p hp b
abbrev ky(a b:Nat):List Key:=[Sum.inl a,Sum.inl b]
theorem ky_inj{a b c d}(h:ky a b=ky c d):a=c/\b=d:=by
 grind
def Keys(kvs:List (List Key×V))(R:Nat->Nat->Prop):Prop:=∀p t:Nat,(valV kvs (ky p t)).isSome=true↔R p t
theorem Keys.put{kvs}{R}(h:Keys kvs R)(a b)(v):Keys (putK kvs (ky a b) v) (fun p t=>R p t\/(p=a/\t=b)):=by
 intro p t
 rw[valV_put]
 by_cases e:ky p t=ky a b
 ·rw[if_pos e]
  exact⟨fun _=> .inr (ky_inj e),fun _=>rfl⟩
 ·rw[if_neg e,h p t]
  exact⟨.inl,fun z=>z.elim id fun⟨d,c⟩=>absurd (by rw[d,c]) e⟩
theorem Keys.iff{kvs}{R S}(h:Keys kvs R)(e:∀p t,R p t↔S p t):Keys kvs S:=fun p t=>(h p t).trans (e p t)
def put{α:Type}(f:Nat->α)(k:Nat)(v:α):Nat->α:=fun i=>if i=k then v else f i
theorem put_same{α}(f)(k)(v:α):put f k v k=v:=by unfold put;rw[if_pos rfl]
theorem put_ne{α}(f){k i}(v:α)(h:i≠k):put f k v i=f i:=by unfold put;rw[if_neg h]
def lv(L:Nat->Nat)(n:Nat):List V:=(List.range n).map fun x:Nat=>V.int (L x)
theorem lv_len(L)(n):(lv L n).length=n:=by unfold lv;simp
theorem lv_get(L){n k}(h:k<n):(lv L n)[k]?=some (.int (L k)):=by
 unfold lv
 simp_all
theorem lv_set(L)(n k v:Nat):(lv L n).set k (.int v)=lv (put L k v) n:=by
 apply List.ext_getElem?
 intro i
 by_cases a:i<n
 ·rw[lv_get _ a,List.getElem?_set]
  by_cases e:k=i
  ·subst e
   rw[if_pos rfl,if_pos (by rw[lv_len];exact a),put_same]
  ·rw[if_neg e,lv_get _ a,put_ne _ _ (fun z=>e z.symm)]
 ·rw[List.getElem?_eq_none (by rw[List.length_set,lv_len];omega),List.getElem?_eq_none (by rw[lv_len];omega)]
end My
namespace My
def InP(tl:List (Option Nat))(u v k:Nat):Prop:=tl[k]?=some (some u)\/tl[k]?=some (some v)
inductive RP(es:List (Nat×Nat))(tl:List (Option Nat))(u v p:Nat):Nat->Prop
 |start:RP es tl u v p p
 |step {x y k:Nat}:RP es tl u v p x->k<es.length->InP tl u v k->At (es.getD k (0,0)) x->At (es.getD k (0,0)) y->RP es tl u v p y
def RT(es:List (Nat×Nat))(tl:List (Option Nat))(u v p k:Nat):Prop:=k<es.length/\InP tl u v k/\∃x,RP es tl u v p x/\At (es.getD k (0,0)) x
structure Walk(es:List (Nat×Nat))(tl:List (Option Nat))(u v p:Nat)(F:Nat->Prop)(V W:Nat->Prop):Prop where
 rt:∀k,F k->RT es tl u v p k
 rw:∀x,W x->RP es tl u v p x
 cl:∀x,V x->∀k,k<es.length->InP tl u v k->At (es.getD k (0,0)) x->F k
 en:∀k,F k->∀x,At (es.getD k (0,0)) x->V x\/W x
 st:V p\/W p
theorem Walk.done(h:Walk es tl u v p F V W)(hW:∀x,¬W x):∀k,F k↔RT es tl u v p k:=by
 have m:∀x,RP es tl u v p x->V x:=fun x i=>by
  induction i with
  |start=>exact h.st.resolve_right (hW _)
  |_ _ f e j g l=>exact(h.en _ (h.cl _ l _ f e j) _ g).resolve_right (hW _)
 exact fun k=>⟨h.rt k,fun⟨a,b,x,c,d⟩=>h.cl x (m x c) k a b d⟩
def draw(ns:List Int)(k:Int):Int:=
 let cell:Int:=if ns.length>0 then ns.getD (k%(ns.length:Int)).toNat 0%2147483629+k/(ns.length:Int)*5381+1 else 3*k+1
 let c2:=(cell*69621+k*k*40692+7)%2147483647
 c2*c2%2147483587
theorem mod_lo{n p:Int}(h:0<p):0<=n%p:=Int.emod_nonneg _ (by omega)
theorem mod_hi{n p:Int}(h:0<p):n%p<p:=Int.emod_lt_of_pos _ h
end My
namespace PySem.W
open PySem PySem.Spec PySem.Calls PyProof.Rows PyProof.V
section
variable{prog:Program}{w:World}{A:Around}{E:Value->Shared->Prop}{s:Shared}{T:String}{r d:Addr}{n:Nat}{P:Nat->Value->Prop}{OK:Heap->Prop}
theorem dcollect{R}(K:KdlSrc prog w T r d n P OK)(hh:A.handled=none)(hok:OK s.heap)(hn:n<=sizeLine)
  (h:∀(h':Heap)(tk:Nat)(acc:Array _),(∀b o,s.heap.get? b=some o->h'.get? b=some o)->s.heap.objs.size<h'.objs.size->ItemsOf P acc n->R acc.toList {s with heap:=h',toks:=tk}):
  wpAny (model prog w) A (collect (.ref r)) R E s:=by
 have j:=K.there _ hok
 refine wpAny_bind (wpAny_runValue (codeAny_builtin entry_proto_collect' (wpAny_bind (wpAny_newObj_type (wpAny_pure ⟨plainId_quiet PySem.F.plain_list_iadd _,codeAny_builtin entry_list_iadd' ?_⟩)))))
 have key:=kdl_extend (s:={s with heap:=s.heap.push {cls:= .type "list",data:= .seq [].toArray}})
  (R:=fun q t=>∃h' tk a m,q= .ok (.ret (.ref s.heap.objs.size))/\t={s with heap:=h',toks:=tk}/\
   (∀b o,s.heap.get? b=some o->h'.get? b=some o)/\h'.get? s.heap.objs.size=some {cls:= .type "list",dict:=none,data:= .seq a m,slots:=#[]}/\ItemsOf P a n)
  K hh (K.keep _ _ hok fun b _ o e=>Heap.get?_push_of_some _ e) _ (Nat.ne_of_gt j.1) (Nat.ne_of_gt j.2) _ 0 (show(s.heap.push _).get? _=some _ from Heap.get?_push_size _ rfl)
  (fun h' tk a m l g c=>⟨h',tk,a,m,rfl,rfl,fun b o e=>l b o (Nat.ne_of_lt (Heap.lt_size e)) (Heap.get?_push_of_some _ e),g,c⟩) hn
 refine wpAny_mono key (fun fin t x=>?_) fun e t x=>?_
 ·cases fin with
  |done f=>
   obtain⟨h',tk,a,m,e,rfl,l,g,c⟩:=x
   cases e
   exact wpAny_bind (wpAny_load g (wpAny_pure (h h' tk a l (Heap.lt_size g) c)))
  |again c₁=>
   refine⟨x.1,codeAny_mono x.2 fun q s₂ y=>?_⟩
   obtain⟨h',tk,a,m,rfl,rfl,l,g,c⟩:=y
   exact wpAny_bind (wpAny_load g (wpAny_pure (h h' tk a l (Heap.lt_size g) c)))
 ·simp_all
end
end PySem.W
namespace L2
open PySem PySem.Spec PyProof.Rows
section
variable{X:Cx}
def tDSetD(td ty tx:TE):TE:=fun σ H Q=>td σ H fun x H1=>∃a,x= .ref a/\IsD H1 a/\ty σ H1 fun y H2=>tx σ H2 fun z H3=>∃kvs k,H3 a=some (.dK kvs)/\y=kV k/\kvs.length<100000/\(∀v,valV kvs k=some v->Q v H3)/\(valV kvs k=none->Q z (upd H3 a (.dK (putK kvs k z))))
theorem pe_dsetd{o e f}{td ty tx}{apos cpos}(ho:PE X o td)(he:PE X e ty)(hf:PE X f tx)(m:M2 X o "setdefault" apos e f cpos):PE X (.Call (.Attribute o "setdefault" apos) [e,f] [] cpos) (tDSetD td ty tx):=by
 refine fun i s σ H Q I h=>wpAny_Call_method m.base m.few m.line PySem.F.plainAttrs_dict PySem.F.slot_dict_setdefault PySem.F.type_dict_setdefault (thn (ho i s σ H _ I h) fun u s1 xq1=>?_)
 obtain⟨x,H1,I1,rx,a,ex,d,q1⟩:=xq1
 subst ex
 obtain rfl:u=Value.ref a:=rx
 obtain⟨t1,t2,_⟩:=isD_at I1 d
 refine⟨t1,t2,?_⟩
 rw[m.trees]
 refine Calls.callWith_builtin rfl (Calls.evalArgs_plain (Calls.spliced_cons (thn (he i s1 σ H1 _ I1 q1) fun iv s2⟨y,H2,I2,ry,q2⟩=>
  Calls.spliced_cons (thn (hf i s2 σ H2 _ I2 q2) fun fv s3⟨z,H3,I3,rz,g,k,hd,ey,hl,q3,q4⟩=>Calls.spliced_nil ?_))))
 subst ey
 obtain⟨zz,lo,vs,l,dd⟩:=dk_of I3.hok hd
 refine call_meetsIn PySem.F.slot_dict_setdefault dd.typeIs PySem.F.entry_dict_setdefault (PySem.F.args_dict_setdefault_3 _ _ _) (kt_meets_setdefault (mixKind X.prog X.w) a (kV_is ry) lo fv) ⟨vs,dd,(show vs.length<=sizeLine by rw[<-l.length];exact zz),fun v hv=>?_,fun hn h' t hs=>?_⟩
 ·have j:=l.val k
  rw[hv]at j
  cases r:valV g k with
  |none=>rw[r]at j;exact j.elim
  |some x=>rw[r]at j;exact⟨x,H3,I3.tok _,j,q3 x r⟩
 ·have j:=l.val k
  rw[hn]at j
  have r:valV g k=none:=by
   cases r:valV g k with
   |none=>rfl
   |some x=>rw[r]at j;exact j.elim
  exact⟨z,_,d_write I3 (by rw[hd];exact True.intro) hs (show∃q,h'.get? a=some q from let⟨q,_,_,hq,_⟩:=t;⟨q,hq⟩) (dk_new (show(putK g k z).length<=sizeLine from leMil (by have:=length_putK g k z;omega)) lo (l.put k rz) t),rz,q4 r⟩
end
end L2
set_option maxHeartbeats 1000000
namespace L2
open PySem PySem.Spec PyProof.Rows
section
variable{X:Cx}{pins:List (Addr×Obj)}{σ:St}{H:Hp}{s:Shared}{A:Around}{E:Value->Shared->Prop}
theorem Inv.freeze{d:Addr}{ob:Obj}{kvs:List (Key×V)}(I:Inv X pins σ H s)(hd:H d=some (.dK kvs))(ho:s.heap.get? d=some ob):Inv X pins σ (upd H d (.frz ob (.dK kvs))) s:=by
 have ne:∀c u,H c=some u->(∀ks,u≠.dK ks)->c≠d:=fun c u q n z=>by rw[z,hd]at q;exact n _ (Option.some.inj q).symm
 have no:∀c,H c=none->c≠d:=fun c q z=>by rw[z,hd]at q;cases q
 refine⟨I.ok,I.os,I.bare,⟨I.base.keep,I.base.slot,fun c o q n hx=>?_,I.base.there,fun c xs q=>?_,fun c o u q=>?_,fun c ps q=>?_⟩,I.loc,I.cell,?_,fun x c q=>?_,fun p hp=>?_,fun c u q=>?_,I.len⟩
 ·have z:=I.base.free c o q n hx
  rw[upd_ne (no c z)];exact z
 ·have z:=I.base.tups c xs q
  rw[upd_ne (ne c _ z fun ks=>by simp)];exact z
 ·have z:=I.base.frzs c o u q
  rw[upd_ne (ne c _ z fun ks=>by simp)];exact z
 ·obtain⟨more,z⟩:=I.base.tbls c ps q
  exact⟨more,by rw[upd_ne (ne c _ z fun ks=>by simp)];exact z⟩
 ·rw[upd_ne (no _ I.free)];exact I.free
 ·rw[upd_ne (no _ (I.freeC x c q))];exact I.freeC x c q
 ·obtain⟨p1,p2,p3⟩:=I.pin p hp
  exact⟨p1,by rw[upd_ne (no _ p2)];exact p2,p3⟩
 ·by_cases hc:c=d
  ·subst hc;rw[upd_same]at q;cases q;exact⟨ho,I.hok c _ hd⟩
  ·rw[upd_ne hc]at q
   refine(I.hok c u q).stay (fun _ _ _ r=>r) (fun e r=>?_) fun e xs r=>?_
   ·rw[upd_ne (ne e _ r fun ks=>by simp)];exact r
   ·rw[upd_ne (ne e _ r fun ks=>by simp)];exact r
variable{I S d:Addr}{vs:List (Key×Value)}{ep:Nat}{ob:Obj}{kvs:List (Key×V)}{f:Addr}{R:Result->Shared->Prop}
end
end L2
namespace PySem
open Sem(wp)
inductive ZK where
 |t|l|d (n ep:Nat)
def ZIt(b:ZK)(h:Heap)(i l:Addr)(k:Nat):Prop:=match b with| .t=>h.IsTupleIter i l k| .l=>h.IsListIter i l k| .d n ep=>h.IsKeyIter i l k n ep
def ZDc(n ep:Nat)(h:Heap)(l:Addr)(xs:Array Value):Prop:=∃o es,h.get? l=some o/\o.ExactDict/\(l==sysModules)=false/\o.data= .dict es ep/\es.size=n/\xs=es.map (·.key)
def ZSq(b:ZK)(h:Heap)(l:Addr)(xs:Array Value):Prop:=match b with| .t=>h.IsTuple l xs| .l=>h.IsList l xs| .d n ep=>ZDc n ep h l xs
def zob(b:ZK)(l:Addr):Obj:=match b with| .t=>{cls:= .type "tuple_iterator",data:= .fields #[.ref l,.int 0 0]}| .l=>{cls:= .type "list_iterator",data:= .fields #[.ref l,.int 0 0]}| .d n ep=>{cls:= .type "dict_keyiterator",data:= .fields #[.ref l,.int 0 0,.int n 0,.int ep 0]}
section
variable{prog:Program}{w:World}{A:Around}{E:Value->Shared->Prop}{s:Shared}
theorem zdc_type{n ep:Nat}{l:Addr}{xs:Array Value}(h:ZDc n ep s.heap l xs):s.TypeIs (.ref l) "dict":=let⟨o,_,ho,hc,_⟩:=h;⟨o,ho,hc.1⟩
theorem nextOf_key_item{it l:Addr}{i n ep:Nat}{items:Array Value}{x:Value}{Q:Value->Shared->Prop}(hit:s.heap.IsKeyIter it l i n ep)(hm:ZDc n ep s.heap l items)(hx:items[i]?=some x)
  (hQ:∀h',h'.IsKeyIter it l (i+1) n ep->Heap.SameBut it s.heap h'->Q x {s with heap:=h'}):wpAny (model prog w) A (Builtin.SmallTypes.nextOf (.ref it)) Q E s:=by
 obtain⟨o,ho,hc,hd⟩:=id hit
 obtain⟨od,es,hod,hcd,hsm,hdd,hsz,rfl⟩:=id hm
 unfold Builtin.SmallTypes.nextOf
 refine wpAny_bind (wpAny_callSpecial?_slot (name:=Str.ofString "__next__") hit.typeIs F.slot_dict_keyiterator_next
  (wpAny_call_entry F.slot_dict_keyiterator_next hit.typeIs F.entry_dict_keyiterator_next ?_ (F.args_dict_keyiterator_next_1 _)))
 refine wpAny_bind (wpAny_pure ?_)
 refine wpAny_bind ?_
 refine wpAny_bind ?_
 first|refine wpAny_bind (wpAny_typeNameOfWhole_keyiter hit.typeIs (wpAny_pure ?_))|refine wpAny_bind (wpAny_typeNameOf_keyiter hit.typeIs (wpAny_pure ?_))
 refine wpAny_bind (wpAny_fieldsOf ho hd ?_)
 have hown:Builtin.Dict_items.ownsTuple "dict_keyiterator"=false:=by decide
 simp only[hown,Bool.false_eq_true,if_false]
 show wpAny _ _ (if(Value.ref l==Value.none)=true then _ else _) _ _ s
 rw[if_neg (show¬((Value.ref l==Value.none)=true)from Bool.false_ne_true)]
 refine wpAny_bind (wpAny_pure ?_)
 refine wpAny_bind (wpAny_dictEntries hod hdd ?_)
 rw[if_neg (by rw[hsz];simp)]
 refine wpAny_bind (wpAny_pure ?_)
 refine wpAny_bind (wpAny_dictEpoch hod hdd ?_)
 rw[if_neg (by simp)]
 refine wpAny_pure ?_
 obtain⟨hlt,hxe⟩:=Array.getElem?_eq_some_iff.mp hx
 have hlt':i<es.size:=by simpa using hlt
 have hxk:es[i].key=x:=by simpa using hxe
 simp only[show¬((i:Int)<0)from by omega,if_false,Int.toNat_natCast,Array.getElem?_eq_getElem hlt']
 refine wpAny_bind ?_
 first|refine wpAny_bind (wpAny_typeNameOfWhole_keyiter hit.typeIs (wpAny_pure ?_))|refine wpAny_bind (wpAny_typeNameOf_keyiter hit.typeIs (wpAny_pure ?_))
 refine wpAny_bind (wpAny_isOneOf_keyiter hit.typeIs ?_)
 show wpAny _ _ (setField (.ref it) 1 (rawInt ((i:Int)+1))>>=_) _ _ s
 refine wpAny_bind (wpAny_setField ho hd (by simp) ?_)
 have hit':(s.heap.update it (Obj.mapFields (·.setIfInBounds 1 (rawInt ((i:Int)+1))))).IsKeyIter it l (i+1) n ep:=
  ⟨_,Heap.get?_update_self _ ho (Obj.isFreed_of_fields (Obj.data_mapFields hd _)),(Obj.cls_mapFields ..).trans hc,by rw[Obj.data_mapFields hd];simp[rawInt]⟩
 refine wpAny_bind (wpAny_holding ?_)
 refine wpAny_bind (wpAny_isOneOf_keyiter (s:={s with heap:=s.heap.update it (Obj.mapFields (·.setIfInBounds 1 (rawInt ((i:Int)+1))))}) hit'.typeIs ?_)
 show wpAny _ _ (pure es[i].key) _ _ _
 exact wpAny_pure (wpAny_pure ⟨_,rfl,wpAny_pure (by rw[hxk];exact hQ _ hit' (Heap.SameBut.update ..))⟩)
theorem nextOf_key_end{it l:Addr}{i n ep:Nat}{items:Array Value}{Q:Value->Shared->Prop}(hh:A.handled=none)(hit:s.heap.IsKeyIter it l i n ep)(hm:ZDc n ep s.heap l items)(hx:items[i]?=none)
  (hE:∀h' e,Heap.ExtBut it s.heap h'->(∃o,h'.get? e=some o/\o.cls= .type "StopIteration")->E (.ref e) {s with heap:=h'}):wpAny (model prog w) A (Builtin.SmallTypes.nextOf (.ref it)) Q E s:=by
 obtain⟨o,ho,hc,hd⟩:=id hit
 obtain⟨od,es,hod,hcd,hsm,hdd,hsz,rfl⟩:=id hm
 unfold Builtin.SmallTypes.nextOf
 refine wpAny_bind (wpAny_callSpecial?_slot (name:=Str.ofString "__next__") hit.typeIs F.slot_dict_keyiterator_next
  (wpAny_call_entry F.slot_dict_keyiterator_next hit.typeIs F.entry_dict_keyiterator_next ?_ (F.args_dict_keyiterator_next_1 _)))
 refine wpAny_bind (wpAny_pure ?_)
 refine wpAny_bind ?_
 refine wpAny_bind ?_
 first|refine wpAny_bind (wpAny_typeNameOfWhole_keyiter hit.typeIs (wpAny_pure ?_))|refine wpAny_bind (wpAny_typeNameOf_keyiter hit.typeIs (wpAny_pure ?_))
 refine wpAny_bind (wpAny_fieldsOf ho hd ?_)
 have hown:Builtin.Dict_items.ownsTuple "dict_keyiterator"=false:=by decide
 simp only[hown,Bool.false_eq_true,if_false]
 show wpAny _ _ (if(Value.ref l==Value.none)=true then _ else _) _ _ s
 rw[if_neg (show¬((Value.ref l==Value.none)=true)from Bool.false_ne_true)]
 refine wpAny_bind (wpAny_pure ?_)
 refine wpAny_bind (wpAny_dictEntries hod hdd ?_)
 rw[if_neg (by rw[hsz];simp)]
 refine wpAny_bind (wpAny_pure ?_)
 refine wpAny_bind (wpAny_dictEpoch hod hdd ?_)
 rw[if_neg (by simp)]
 refine wpAny_pure ?_
 have hge:es.size<=i:=by simpa using Array.getElem?_eq_none_iff.mp hx
 simp only[show¬((i:Int)<0)from by omega,if_false,Int.toNat_natCast,Array.getElem?_eq_none hge]
 refine wpAny_bind ?_
 first|refine wpAny_bind (wpAny_typeNameOfWhole_keyiter hit.typeIs (wpAny_pure ?_))|refine wpAny_bind (wpAny_typeNameOf_keyiter hit.typeIs (wpAny_pure ?_))
 show wpAny _ _ (setField (.ref it) 0 .none>>=_) _ _ s
 refine wpAny_bind (wpAny_setField ho hd (by simp) ?_)
 show wpAny _ _ (newExc (.type "StopIteration") []>>=_) _ _ _
 refine wpAny_bind ?_
 simp only[newExc,newTuple]
 refine wpAny_bind (wpAny_newObj_type ?_ (by size_fits))
 refine wpAny_bind (m:=firstArgMember _ _) (wpAny_of_eq (a:=Value.none) (by first|rfl|(simp only[firstArgMember];rfl)) ?_)
 refine wpAny_newObj_type ?_ (by size_fits)
 simp only[raiseNew]
 refine wpAny_bind (wpAny_handled ?_)
 first|rw[show A.in1.handled=none from hh]|rw[hh]
 refine wpAny_bind (wpAny_pure (wpAny_throw ?_))
 exact hE _ _ (((Heap.SameBut.update ..).extBut.push _).push _) ⟨_,Heap.get?_push_size _ rfl,rfl⟩
theorem pyIter_key{d:Addr}{n ep:Nat}{items:Array Value}{Q:Value->Shared->Prop}(hm:ZDc n ep s.heap d items)
  (hQ:Q (.ref s.heap.objs.size) {s with heap:=s.heap.push {cls:= .type "dict_keyiterator",data:= .fields #[.ref d,.int 0 0,.int n 0,.int ep 0]}}):
  wpAny (model prog w) A (pyIter (.ref d)) Q E s:=by
 have hT:=zdc_type hm
 obtain⟨o,es,ho,hc,hd,hdat,hsz,rfl⟩:=id hm
 refine wpAny_pyIter_slot hT F.slot_dict_iter (wpAny_call_entry F.slot_dict_iter hT F.entry_dict_iter ?_ (F.args_dict_iter_1 _))
 unfold Builtin.«dict.__iter__»
 refine wpAny_bind ?_
 unfold Builtin.Dict.dictSlotNone
 refine wpAny_bind (wpAny_notOrdered_dict hT ?_)
 show wpAny _ _ (pure (Value.ref d)) _ _ s
 refine wpAny_pure ?_
 show wpAny _ _ (Builtin.Dict.showsAll d>>=_) _ _ s
 unfold Builtin.Dict.showsAll
 rw[if_neg (by rw[hd];exact Bool.false_ne_true)]
 refine wpAny_bind (wpAny_pure ?_)
 refine wpAny_bind (wpAny_dictEntries ho hdat ?_)
 refine wpAny_bind (wpAny_dictEpoch ho hdat ?_)
 refine wpAny_bind (wpAny_newObj_type (wpAny_pure ⟨_,rfl,"dict_keyiterator",_,⟨_,Heap.get?_push_size _ rfl,rfl⟩,F.slot_dict_keyiterator_next.lookup,?_⟩))
 simpa[rawInt,hsz]using hQ
end
section
variable{prog:Program}{w:World}{A:Around}{E:Value->Shared->Prop}{s:Shared}{b:ZK}{h h':Heap}{it i l z:Addr}{k:Nat}{xs items:Array Value}
theorem ZIt.at(x:ZIt b h i l k)(f:∀o,h.get? i=some o->h'.get? i=some o):ZIt b h' i l k:=by
 cases b<;>exact let⟨o,a,r⟩:=x;⟨o,f o a,r⟩
theorem ZIt.ob(x:ZIt b h i l k):∃o fs,h.get? i=some o/\o.data= .fields fs:=by
 cases b<;>exact let⟨o,a,_,r⟩:=x;⟨o,_,a,r⟩
theorem ZIt.extBut(x:ZIt b h i l k)(f:Heap.ExtBut z h h')(n:i≠z):ZIt b h' i l k:=x.at fun _ e=>f _ _ n e
theorem ZSq.extBut(x:ZSq b h l xs)(f:Heap.ExtBut z h h')(n:l≠z):ZSq b h' l xs:=by
 cases b with
 |d m ep=>exact let⟨o,es,a,r⟩:=x;⟨o,es,f _ _ n a,r⟩
 |_=>exact let⟨o,a,r⟩:=x;⟨o,f _ _ n a,r⟩
theorem ZSq.lt(x:ZSq b h l xs):l<h.objs.size:=by
 cases b with
 |d n ep=>exact let⟨_,_,a,_⟩:=x;Heap.lt_size a
 |_=>exact let⟨_,a,_⟩:=x;Heap.lt_size a
theorem ZSq.push(x:ZSq b h l xs)(o:Obj):ZSq b (h.push o) l xs:=by
 cases b with
 |d n ep=>exact let⟨_,es,a,r⟩:=x;⟨_,es,Heap.get?_push_of_some _ a,r⟩
 |_=>exact let⟨_,a,r⟩:=x;⟨_,Heap.get?_push_of_some _ a,r⟩
theorem zit_item{x:Value}{Q:Value->Shared->Prop}(hit:ZIt b s.heap it l k)(hl:ZSq b s.heap l items)(hx:items[k]?=some x)
  (hQ:∀h',ZIt b h' it l (k+1)->Heap.SameBut it s.heap h'->Q x {s with heap:=h'}):wpAny (model prog w) A (Builtin.SmallTypes.nextOf (.ref it)) Q E s:=by
 cases b with
 |l=>exact wpAny_nextOf_list_item hit hl hx hQ
 |t=>exact nextOf_tuple_item hit hl hx hQ
 |d n ep=>exact nextOf_key_item hit hl hx hQ
theorem zit_end{Q:Value->Shared->Prop}(hh:A.handled=none)(hit:ZIt b s.heap it l k)(hl:ZSq b s.heap l items)(hx:items[k]?=none)
  (hE:∀h' e,Heap.ExtBut it s.heap h'->(∃o,h'.get? e=some o/\o.cls= .type "StopIteration")->E (.ref e) {s with heap:=h'}):wpAny (model prog w) A (Builtin.SmallTypes.nextOf (.ref it)) Q E s:=by
 cases b with
 |l=>exact wpAny_nextOf_list_end hh hit hl hx hE
 |t=>exact nextOf_tuple_end hh hit hl hx hE
 |d n ep=>exact nextOf_key_end hh hit hl hx hE
theorem zit_iter{Q:Value->Shared->Prop}(hl:ZSq b s.heap l items)(hQ:Q (.ref s.heap.objs.size) {s with heap:=s.heap.push (zob b l)}):wpAny (model prog w) A (pyIter (.ref l)) Q E s:=by
 cases b with
 |l=>exact wpAny_pyIter_list hl hQ
 |t=>exact wpAny_pyIter_tuple hl hQ
 |d n ep=>exact pyIter_key hl hQ
end
section
variable{prog:Program}{w:World}{A:Around}{E:Value->Shared->Prop}{s:Shared}{b1 b2:ZK}
theorem zipG_next_item{z TI TO i1 i2 l1 l2:Addr}{k1 k2:Nat}{xs ys:Array Value}{x y a b:Value}{Q:Value->Shared->Prop}(D:ZipApart z TI TO i1 i2 l1 l2)
  (hz:IsZip s.heap z TI TO .none)(hTI:IsPair s.heap TI (.ref i1) (.ref i2))(hTO:IsPair s.heap TO a b)
  (h1:ZIt b1 s.heap i1 l1 k1)(h2:ZIt b2 s.heap i2 l2 k2)(hl1:ZSq b1 s.heap l1 xs)(hl2:ZSq b2 s.heap l2 ys)(hx:xs[k1]?=some x)(hy:ys[k2]?=some y)
  (hQ:∀h',IsZip h' z TI TO (rawInt s.heap.objs.size)->IsPair h' TO x y->ZIt b1 h' i1 l1 (k1+1)->ZIt b2 h' i2 l2 (k2+1)->IsPair h' s.heap.objs.size x y->h'.objs.size=s.heap.objs.size+1->
   (∀c o,c≠z->c≠TO->c≠i1->c≠i2->s.heap.get? c=some o->h'.get? c=some o)->Q (.ref s.heap.objs.size) {s with heap:=h'}):
  wpAny (model prog w) A (Builtin.«zip.__next__» ⟨[.ref z],[]⟩) (fun fin s'=>∃v,fin= .done (.ret v)/\Q v s') E s:=by
 show wpAny _ _ (field (.ref z) 2>>=_) _ _ _
 refine wpAny_bind (wpAny_field hz rfl (x:= .bool false) rfl ?_)
 show wpAny _ _ (field (.ref z) 3>>=_) _ _ _
 refine wpAny_bind (wpAny_field hz rfl (x:= .ref TI) rfl ?_)
 refine wpAny_bind (wpAny_seqItems hTI rfl ?_)
 show wpAny _ _ (Builtin.SmallTypes.ownedTupleIsFree (.ref z)>>=_) _ _ _
 refine wpAny_bind ?_
 unfold Builtin.SmallTypes.ownedTupleIsFree
 refine wpAny_bind (wpAny_field hz rfl (x:= .none) rfl (wpAny_pure ?_))
 simp only[if_true]
 refine wpAny_bind (wpAny_rule ?_)
 refine wpAny_bind (wpAny_field hz rfl (x:= .ref TO) rfl ?_)
 refine wpAny_bind (wpAny_setField_rec hz (by simp) fun h₁ hz₁ hs₁=>?_)
 replace hz₁:IsZip h₁ z TI TO .ellipsis:=hz₁
 refine wpAny_bind ?_
 simp only[List.zipIdx_cons,List.zipIdx_nil,List.forIn_cons,List.forIn_nil]
 refine wpAny_bind (wpAny_bind (wpAny_onRaise ?_))
 show wpAny _ _ (Builtin.SmallTypes.nextOf (.ref i1)>>=_) _ _ _
 refine wpAny_bind (zit_item (h1.extBut hs₁.extBut D.i1z) (hl1.extBut hs₁.extBut D.l1z) hx fun h₂ h1₂ hs₂=>wpAny_pure ?_)
 have hTO₂:IsPair h₂ TO a b:=hs₂.extBut _ _ D.TOi1 (hs₁.extBut _ _ D.TOz hTO)
 refine wpAny_bind (wpAny_seqItems hTO₂ rfl ?_)
 refine wpAny_bind (wpAny_updateSeq_pair hTO₂ fun h₃ hTO₃ hs₃=>?_)
 replace hTO₃:IsPair h₃ TO x b:=hTO₃
 refine wpAny_bind (wpAny_letGo (wpAny_pure ?_))
 refine wpAny_bind (wpAny_bind (wpAny_onRaise ?_))
 show wpAny _ _ (Builtin.SmallTypes.nextOf (.ref i2)>>=_) _ _ _
 refine wpAny_bind (zit_item (((h2.extBut hs₁.extBut D.i2z).extBut hs₂.extBut D.i12.symm).extBut hs₃.extBut D.TOi2.symm)
  (((hl2.extBut hs₁.extBut D.l2z).extBut hs₂.extBut D.l2i1).extBut hs₃.extBut D.l2TO) hy fun h₄ h2₄ hs₄=>wpAny_pure ?_)
 have hTO₄:IsPair h₄ TO x b:=hs₄.extBut _ _ D.TOi2 hTO₃
 refine wpAny_bind (wpAny_seqItems hTO₄ rfl ?_)
 refine wpAny_bind (wpAny_updateSeq_pair hTO₄ fun h₅ hTO₅ hs₅=>?_)
 replace hTO₅:IsPair h₅ TO x y:=hTO₅
 refine wpAny_bind (wpAny_letGo (wpAny_pure (wpAny_pure ?_)))
 refine wpAny_bind (wpAny_seqItems hTO₅ rfl ?_)
 refine wpAny_bind (wpAny_newTuple ?_)
 have hsz:h₅.objs.size=s.heap.objs.size:=by rw[hs₅.1,hs₄.1,hs₃.1,hs₂.1,hs₁.1]
 have hz₅:IsZip h₅ z TI TO .ellipsis:=hs₅.extBut _ _ D.TOz.symm (hs₄.extBut _ _ D.i2z.symm (hs₃.extBut _ _ D.TOz.symm (hs₂.extBut _ _ D.i1z.symm hz₁)))
 have hk₅:∀c o,c≠z->c≠TO->c≠i1->c≠i2->s.heap.get? c=some o->h₅.get? c=some o:=fun c o c1 c2 c3 c4 e=>
  hs₅.extBut _ _ c2 (hs₄.extBut _ _ c4 (hs₃.extBut _ _ c2 (hs₂.extBut _ _ c3 (hs₁.extBut _ _ c1 e))))
 have h1₅:ZIt b1 h₅ i1 l1 (k1+1):=((h1₂.extBut hs₃.extBut D.TOi1.symm).extBut hs₄.extBut D.i12).extBut hs₅.extBut D.TOi1.symm
 have h2₅:ZIt b2 h₅ i2 l2 (k2+1):=h2₄.extBut hs₅.extBut D.TOi2.symm
 have hzlt:z<h₅.objs.size:=Heap.lt_size hz₅
 have hTOlt:TO<h₅.objs.size:=Heap.lt_size hTO₅
 show wpAny _ _ (Builtin.SmallTypes.ownedTupleHandOut (.ref z) (.ref h₅.objs.size)>>=_) _ _ _
 refine wpAny_bind ?_
 unfold Builtin.SmallTypes.ownedTupleHandOut
 have hz₆:IsZip (h₅.push {cls:= .type "tuple",data:= .seq #[x,y]}) z TI TO .ellipsis:=Heap.get?_push_of_some _ hz₅
 refine wpAny_bind (wpAny_setField_rec hz₆ (by simp) fun h₇ hz₇ hs₇=>?_)
 replace hz₇:IsZip h₇ z TI TO (rawInt h₅.objs.size):=hz₇
 refine wpAny_setField_rec hz₇ (by simp) fun h₈ hz₈ hs₈=>?_
 replace hz₈:IsZip h₈ z TI TO (rawInt h₅.objs.size):=hz₈
 have up:∀c o,c≠z->h₅.get? c=some o->h₈.get? c=some o:=fun c o c1 e=>hs₈.extBut _ _ c1 (hs₇.extBut _ _ c1 (Heap.get?_push_of_some _ e))
 have hT₈:IsPair h₈ h₅.objs.size x y:=hs₈.extBut _ _ (Nat.ne_of_gt hzlt) (hs₇.extBut _ _ (Nat.ne_of_gt hzlt) (Heap.get?_push_size _ rfl))
 have hz8:h₈.objs.size=h₅.objs.size+1:=by rw[hs₈.1,hs₇.1,Heap.size_push]
 rw[hsz]at hz₈ hT₈ hz8
 refine wpAny_pure ⟨_,rfl,?_⟩
 show Q (.ref h₅.objs.size) _
 rw[hsz]
 exact hQ h₈ hz₈ (up _ _ D.TOz hTO₅) (h1₅.at fun o e=>up _ o D.i1z e) (h2₅.at fun o e=>up _ o D.i2z e) hT₈ hz8 fun c o c1 c2 c3 c4 e=>up c o c1 (hk₅ c o c1 c2 c3 c4 e)
theorem zipG_next_end{z TI TO i1 i2 l1 l2:Addr}{k1 k2:Nat}{xs ys:Array Value}{a b:Value}{Q:Fin->Shared->Prop}(hh:A.handled=none)(D:ZipApart z TI TO i1 i2 l1 l2)
  (hz:IsZip s.heap z TI TO .none)(hTI:IsPair s.heap TI (.ref i1) (.ref i2))(hTO:IsPair s.heap TO a b)
  (h1:ZIt b1 s.heap i1 l1 k1)(h2:ZIt b2 s.heap i2 l2 k2)(hl1:ZSq b1 s.heap l1 xs)(hl2:ZSq b2 s.heap l2 ys)(hend:xs[k1]?=none\/ys[k2]?=none)
  (hE:∀h' e,(∀c o,c≠z->c≠TO->c≠i1->c≠i2->s.heap.get? c=some o->h'.get? c=some o)->(∃o,h'.get? e=some o/\o.cls= .type "StopIteration")->E (.ref e) {s with heap:=h'}):
  wpAny (model prog w) A (Builtin.«zip.__next__» ⟨[.ref z],[]⟩) Q E s:=by
 show wpAny _ _ (field (.ref z) 2>>=_) _ _ _
 refine wpAny_bind (wpAny_field hz rfl (x:= .bool false) rfl ?_)
 show wpAny _ _ (field (.ref z) 3>>=_) _ _ _
 refine wpAny_bind (wpAny_field hz rfl (x:= .ref TI) rfl ?_)
 refine wpAny_bind (wpAny_seqItems hTI rfl ?_)
 show wpAny _ _ (Builtin.SmallTypes.ownedTupleIsFree (.ref z)>>=_) _ _ _
 refine wpAny_bind ?_
 unfold Builtin.SmallTypes.ownedTupleIsFree
 refine wpAny_bind (wpAny_field hz rfl (x:= .none) rfl (wpAny_pure ?_))
 simp only[if_true]
 refine wpAny_bind (wpAny_rule ?_)
 refine wpAny_bind (wpAny_field hz rfl (x:= .ref TO) rfl ?_)
 refine wpAny_bind (wpAny_setField_rec hz (by simp) fun h₁ hz₁ hs₁=>?_)
 replace hz₁:IsZip h₁ z TI TO .ellipsis:=hz₁
 refine wpAny_bind ?_
 simp only[List.zipIdx_cons,List.zipIdx_nil,List.forIn_cons,List.forIn_nil]
 refine wpAny_bind (wpAny_bind (wpAny_onRaise ?_))
 show wpAny _ _ (Builtin.SmallTypes.nextOf (.ref i1)>>=_) _ _ _
 cases hx:xs[k1]? with
 |none=>
  refine wpAny_bind (zit_end hh (h1.extBut hs₁.extBut D.i1z) (hl1.extBut hs₁.extBut D.l1z) hx fun h₂ e hs₂ he=>?_)
  obtain⟨oe,hoe,hce⟩:=he
  have hz₂:IsZip h₂ z TI TO .ellipsis:=hs₂ _ _ D.i1z.symm hz₁
  have hez:e≠z:=fun x=>by subst x;rw[hz₂]at hoe;cases hoe;simp at hce
  refine wpAny_setField_rec hz₂ (by simp) fun h₃ _ hs₃=>hE h₃ e (fun c o c1 _ c3 _ x=>hs₃.extBut _ _ c1 (hs₂ _ _ c3 (hs₁.extBut _ _ c1 x))) ⟨oe,hs₃.extBut _ _ hez hoe,hce⟩
 |some x=>
  have hy:ys[k2]?=none:=by rcases hend with h|h;rw[hx]at h;cases h;exact h
  refine wpAny_bind (zit_item (h1.extBut hs₁.extBut D.i1z) (hl1.extBut hs₁.extBut D.l1z) hx fun h₂ h1₂ hs₂=>wpAny_pure ?_)
  have hTO₂:IsPair h₂ TO a b:=hs₂.extBut _ _ D.TOi1 (hs₁.extBut _ _ D.TOz hTO)
  refine wpAny_bind (wpAny_seqItems hTO₂ rfl ?_)
  refine wpAny_bind (wpAny_updateSeq_pair hTO₂ fun h₃ hTO₃ hs₃=>?_)
  refine wpAny_bind (wpAny_letGo (wpAny_pure ?_))
  refine wpAny_bind (wpAny_bind (wpAny_onRaise ?_))
  show wpAny _ _ (Builtin.SmallTypes.nextOf (.ref i2)>>=_) _ _ _
  refine wpAny_bind (zit_end hh (((h2.extBut hs₁.extBut D.i2z).extBut hs₂.extBut D.i12.symm).extBut hs₃.extBut D.TOi2.symm)
   (((hl2.extBut hs₁.extBut D.l2z).extBut hs₂.extBut D.l2i1).extBut hs₃.extBut D.l2TO) hy fun h₄ e hs₄ he=>?_)
  obtain⟨oe,hoe,hce⟩:=he
  have hz₄:IsZip h₄ z TI TO .ellipsis:=hs₄ _ _ D.i2z.symm (hs₃.extBut _ _ D.TOz.symm (hs₂.extBut _ _ D.i1z.symm hz₁))
  have hez:e≠z:=fun x=>by subst x;rw[hz₄]at hoe;cases hoe;simp at hce
  refine wpAny_setField_rec hz₄ (by simp) fun h₅ _ hs₅=>hE h₅ e (fun c o c1 c2 c3 c4 x=>hs₅.extBut _ _ c1 (hs₄ _ _ c4 (hs₃.extBut _ _ c2 (hs₂.extBut _ _ c3 (hs₁.extBut _ _ c1 x))))) ⟨oe,hs₅.extBut _ _ hez hoe,hce⟩
theorem wpAny_pyNext_zipG_item{z TI TO i1 i2 l1 l2:Addr}{k1 k2:Nat}{xs ys:Array Value}{x y a b:Value}{Q:Option Value->Shared->Prop}(D:ZipApart z TI TO i1 i2 l1 l2)
  (hz:IsZip s.heap z TI TO .none)(hTI:IsPair s.heap TI (.ref i1) (.ref i2))(hTO:IsPair s.heap TO a b)
  (h1:ZIt b1 s.heap i1 l1 k1)(h2:ZIt b2 s.heap i2 l2 k2)(hl1:ZSq b1 s.heap l1 xs)(hl2:ZSq b2 s.heap l2 ys)(hx:xs[k1]?=some x)(hy:ys[k2]?=some y)
  (hQ:∀h',IsZip h' z TI TO (rawInt s.heap.objs.size)->IsPair h' TO x y->ZIt b1 h' i1 l1 (k1+1)->ZIt b2 h' i2 l2 (k2+1)->IsPair h' s.heap.objs.size x y->h'.objs.size=s.heap.objs.size+1->
   (∀c o,c≠z->c≠TO->c≠i1->c≠i2->s.heap.get? c=some o->h'.get? c=some o)->Q (some (.ref s.heap.objs.size)) {s with heap:=h'}):
  wpAny (model prog w) A (pyNext (.ref z)) Q E s:=by
 have hT:s.TypeIs (.ref z) "zip":=⟨_,hz,rfl⟩
 unfold pyNext
 exact wpAny_bind (wpAny_attempt (wpAny_callSpecial?_slot (name:=Str.ofString "__next__") hT F.slot_zip_next
  (wpAny_call_entry F.slot_zip_next hT F.entry_zip_next
   (zipG_next_item D hz hTI hTO h1 h2 hl1 hl2 hx hy fun h' a1 a2 a3 a4 a5 a6 a7=>wpAny_pure (hQ h' a1 a2 a3 a4 a5 a6 a7)) (F.args_zip_next_1 _))))
theorem wpAny_pyNext_zipG_end{z TI TO i1 i2 l1 l2:Addr}{k1 k2:Nat}{xs ys:Array Value}{a b:Value}{Q:Option Value->Shared->Prop}(hh:A.handled=none)(D:ZipApart z TI TO i1 i2 l1 l2)
  (hz:IsZip s.heap z TI TO .none)(hTI:IsPair s.heap TI (.ref i1) (.ref i2))(hTO:IsPair s.heap TO a b)
  (h1:ZIt b1 s.heap i1 l1 k1)(h2:ZIt b2 s.heap i2 l2 k2)(hl1:ZSq b1 s.heap l1 xs)(hl2:ZSq b2 s.heap l2 ys)(hend:xs[k1]?=none\/ys[k2]?=none)
  (hQ:∀h',(∀c o,c≠z->c≠TO->c≠i1->c≠i2->s.heap.get? c=some o->h'.get? c=some o)->Q none {s with heap:=h'}):wpAny (model prog w) A (pyNext (.ref z)) Q E s:=by
 have hT:s.TypeIs (.ref z) "zip":=⟨_,hz,rfl⟩
 unfold pyNext
 refine wpAny_bind (wpAny_attempt (wpAny_callSpecial?_slot (name:=Str.ofString "__next__") hT F.slot_zip_next
  (wpAny_call_entry F.slot_zip_next hT F.entry_zip_next (zipG_next_end hh D hz hTI hTO h1 h2 hl1 hl2 hend fun h' e hk he=>?_) (F.args_zip_next_1 _))))
 obtain⟨o,ho,hc⟩:=he
 refine wpAny_bind (wpAny_isInstance (T:="StopIteration") (b:=true) ⟨o,ho,hc⟩ isSubtype_stop ?_)
 exact wpAny_pure (hQ _ hk)
end
theorem zob_free(b:ZK)(l:Addr):(zob b l).isFreed=false:=by cases b<;>rfl
abbrev zDH1(b1:ZK)(h:Heap)(l1:Addr):Heap:=h.push (zob b1 l1)
abbrev zDH2(b1 b2:ZK)(h:Heap)(l1 l2:Addr):Heap:=(zDH1 b1 h l1).push (zob b2 l2)
abbrev zDH3(b1 b2:ZK)(h:Heap)(l1 l2:Addr):Heap:=(zDH2 b1 b2 h l1 l2).push {cls:= .type "tuple",data:= .seq #[.ref h.objs.size,.ref (zDH1 b1 h l1).objs.size]}
abbrev zDH4(b1 b2:ZK)(h:Heap)(l1 l2:Addr):Heap:=(zDH3 b1 b2 h l1 l2).push {cls:= .type "tuple",data:= .seq #[.none,.none]}
abbrev zDH5(b1 b2:ZK)(h:Heap)(l1 l2:Addr):Heap:=(zDH4 b1 b2 h l1 l2).push {cls:= .type "zip",data:= .fields #[.none,.bool false,.bool false,.ref (zDH2 b1 b2 h l1 l2).objs.size,.ref (zDH3 b1 b2 h l1 l2).objs.size]}
theorem meets_zip_newG(b1 b2:ZK)(l1 l2:Addr)(xs ys:Array Value):
  Meets (Builtin.«zip.__new__» ⟨[.type "zip",.ref l1,.ref l2],[]⟩) (fun _ R s=>ZSq b1 s.heap l1 xs/\ZSq b2 s.heap l2 ys/\
   R (.ok (.ret (.ref (zDH4 b1 b2 s.heap l1 l2).objs.size))) {s with heap:=zDH5 b1 b2 s.heap l1 l2}):=
 .of_wp fun prog w A R s h=>by
  obtain⟨hp,g,d,tk,os⟩:=s;obtain⟨hl1,hl2,h⟩:=h
  have hsub:=sub_zip
  have hL1:ZSq b1 (Shared.heap ⟨hp,g,d,tk,os⟩) l1 xs:=hl1
  have hL2:ZSq b2 (Shared.heap ⟨hp.push (zob b1 l1),g,d,tk,os⟩) l2 ys:=ZSq.push hl2 _
  wp_walk using zit_iter hL1,zit_iter hL2
  exact⟨_,rfl,h⟩
section
variable{prog:Program}{w:World}{A:Around}{E:Value->Shared->Prop}{s:Shared}{b1 b2:ZK}
theorem call_zipG{l1 l2:Addr}{xs ys:Array Value}{Q:Value->Shared->Prop}(hl1:ZSq b1 s.heap l1 xs)(hl2:ZSq b2 s.heap l2 ys)
  (h:∀h',IsZip h' (s.heap.objs.size+4) (s.heap.objs.size+2) (s.heap.objs.size+3) .none->IsPair h' (s.heap.objs.size+2) (.ref s.heap.objs.size) (.ref (s.heap.objs.size+1))->
   IsPair h' (s.heap.objs.size+3) .none .none->ZIt b1 h' s.heap.objs.size l1 0->ZIt b2 h' (s.heap.objs.size+1) l2 0->h'.objs.size=s.heap.objs.size+5->
   (∀c o,s.heap.get? c=some o->h'.get? c=some o)->Q (.ref (s.heap.objs.size+4)) {s with heap:=h'}):
  wpAny (model prog w) A (call (.type "zip") [.ref l1,.ref l2]) Q E s:=by
 refine callType_new F.called_zip (by decide) (F.typeCall_zip_2 _ _) (F.newCall_zip_2 _ _) (fun obj=>F.args_object_init_3 obj _ _) F.entry_zip_new
  (meets_zip_newG b1 b2 l1 l2 xs ys) ⟨hl1,hl2,?_⟩
 have z1:(zDH1 b1 s.heap l1).objs.size=s.heap.objs.size+1:=Heap.size_push ..
 have z2:(zDH2 b1 b2 s.heap l1 l2).objs.size=s.heap.objs.size+2:=by rw[Heap.size_push,z1]
 have z3:(zDH3 b1 b2 s.heap l1 l2).objs.size=s.heap.objs.size+3:=by rw[Heap.size_push,z2]
 have z4:(zDH4 b1 b2 s.heap l1 l2).objs.size=s.heap.objs.size+4:=by rw[Heap.size_push,z3]
 have z5:(zDH5 b1 b2 s.heap l1 l2).objs.size=s.heap.objs.size+5:=by rw[Heap.size_push,z4]
 have g5:(zDH5 b1 b2 s.heap l1 l2).get? (zDH4 b1 b2 s.heap l1 l2).objs.size=some _:=Heap.get?_push_size _ rfl
 have g4:(zDH5 b1 b2 s.heap l1 l2).get? (zDH3 b1 b2 s.heap l1 l2).objs.size=some _:=Heap.get?_push_of_some _ (Heap.get?_push_size _ rfl)
 have g3:(zDH5 b1 b2 s.heap l1 l2).get? (zDH2 b1 b2 s.heap l1 l2).objs.size=some _:=Heap.get?_push_of_some _ (Heap.get?_push_of_some _ (Heap.get?_push_size _ rfl))
 have g2:(zDH5 b1 b2 s.heap l1 l2).get? (zDH1 b1 s.heap l1).objs.size=some _:=Heap.get?_push_of_some _ (Heap.get?_push_of_some _ (Heap.get?_push_of_some _ (Heap.get?_push_size _ (zob_free _ _))))
 have g1:(zDH5 b1 b2 s.heap l1 l2).get? s.heap.objs.size=some _:=Heap.get?_push_of_some _ (Heap.get?_push_of_some _ (Heap.get?_push_of_some _ (Heap.get?_push_of_some _ (Heap.get?_push_size _ (zob_free _ _)))))
 show _/\_
 rw[z2,z3,z4]at g5
 rw[z1,z2]at g3
 rw[z3]at g4
 rw[z1]at g2
 rw[z4]
 exact⟨⟨_,g5,rfl⟩,h _ g5 g3 g4 (by cases b1<;>exact⟨_,g1,rfl,rfl⟩) (by cases b2<;>exact⟨_,g2,rfl,rfl⟩) z5 fun c o x=>
  Heap.get?_push_of_some _ (Heap.get?_push_of_some _ (Heap.get?_push_of_some _ (Heap.get?_push_of_some _ (Heap.get?_push_of_some _ x))))⟩
end
end PySem
namespace L2
open PySem
theorem boot_zip:bootBuiltins "zip"=some (.type "zip"):=by decide+kernel
end L2
namespace L2
open PySem PySem.Spec PyProof.Rows
def KyZ(n ep:Nat)(H:Hp)(a:Addr)(xs:List V):Prop:=∃(ob:Obj)(kvs:List (Key×V))(es:Array DictEntry),H a=some (.frz ob (.dK kvs))/\ob.data= .dict es ep/\es.size=n/\xs=kvs.map fun p=>kV p.1
def SqZ(b:ZK)(K:PySem.W.Frag)(H:Hp)(a:Addr)(xs:List V):Prop:=match b with| .t=>SqT K H a xs| .l=>SqL K H a xs| .d n ep=>KyZ n ep H a xs
theorem key_rel0{k:Key}{u:Value}(h:keyIs k u=true):RelV (kV k) u:=by
 rcases keyIs_shape h with⟨i,t,rfl,rfl⟩|⟨x,t,rfl,rfl⟩
 ·exact⟨t,rfl⟩
 ·exact⟨t,rfl⟩
theorem pairs_keys{P:Program}{w:World}{es:List DictEntry}{vs:List (Key×Value)}(p:PySem.Pairs (mixKind P w) es vs):∀{kvs:List (Key×V)},KV kvs vs->Vals (kvs.map fun p=>kV p.1) (es.map (·.key)):=by
 induction p with
 |nil=>intro kvs r;cases r;exact .nil
 |cons h1 h2 _ ih=>
  intro kvs r
  cases r with
  |cons hr tr=>
   exact .cons (by show RelV (kV _) _;rw[hr.1];exact key_rel0 h1) (ih tr)
theorem Inv.sqz{X:Cx}{pins:List (Addr×Obj)}{σ:St}{H:Hp}{s:Shared}{b:ZK}{a:Addr}{xs:List V}(I:Inv X pins σ H s)(h:SqZ b X.K H a xs):∃its,Vals xs its/\ZSq b s.heap a its.toArray:=by
 cases b with
 |l=>
  obtain⟨its,r,p,_⟩:=I.list h
  exact⟨its,r,p.isList⟩
 |t=>
  obtain⟨its,r,p,_⟩:=I.tuple h
  exact⟨its,r,p⟩
 |d n ep=>
  obtain⟨ob,kvs,es,hf,hd,hn,rfl⟩:=h
  obtain⟨ho,_,lo,vs,rel,o,es',ep',ho',hx,hd',hk,hp,hnd⟩:=I.hok a _ hf
  rw[ho]at ho'
  cases ho'
  rw[hd]at hd'
  cases hd'
  exact⟨_,pairs_keys hp rel,ob,es,ho,hx,lo,hd,hn,by rw[<-Array.toList_map,Array.toArray_toList]⟩
theorem Inv.sqz_inj{X:Cx}{pins:List (Addr×Obj)}{σ:St}{H:Hp}{s:Shared}{b:ZK}{a:Addr}{xs ys:List V}(I:Inv X pins σ H s)(h:SqZ b X.K H a xs)(h':SqZ b X.K H a ys):xs=ys:=by
 cases b with
 |l=>exact I.list_inj h h'
 |t=>exact I.tuple_inj h h'
 |d n ep=>
  obtain⟨_,kvs,_,hf,_,_,rfl⟩:=h
  obtain⟨_,_,_,hf',_,_,rfl⟩:=h'
  rw[hf]at hf'
  cases hf'
  rfl
def ItG(b1 b2:ZK)(K:PySem.W.Frag)(a c:Addr):It:=
 ⟨fun i H=>∃xs ys x y,SqZ b1 K H a xs/\SqZ b2 K H c ys/\xs[i]?=some x/\ys[i]?=some y,
  fun i H x H'=>∃T u v,x= .ref T/\H T=none/\H'=upd H T (.tup [u,v])/\(∀xs,SqZ b1 K H a xs->xs[i]?=some u)/\∀ys,SqZ b2 K H c ys->ys[i]?=some v,
  fun i H=>∃xs ys,SqZ b1 K H a xs/\SqZ b2 K H c ys/\(xs.length<=i\/ys.length<=i)⟩
structure ZSt3(b1 b2:ZK)(h:Heap)(z TI TO i1 i2 a c:Addr)(i:Nat):Prop where
 zip:IsZip h z TI TO .none
 ti:IsPair h TI (.ref i1) (.ref i2)
 to:∃u v,IsPair h TO u v
 it1:ZIt b1 h i1 a i
 it2:ZIt b2 h i2 c i
theorem turn_zip3{b1 b2:ZK}{P:Program}{w:World}{K:PySem.W.Frag}{elts:List Expr}{x1:Nat}{pos:Pos}(z TI TO i1 i2 a c:Addr)(D:ZipApart z TI TO i1 i2 a c):
  Turn P w K (.Tuple elts x1 pos) (ItG b1 b2 K a c) [z,TI,TO,i1,i2] z (fun i h=>ZSt3 b1 b2 h z TI TO i1 i2 a c i)where
 mem:=by simp
 obj:=fun i h st b hb=>by
  obtain⟨hz,hTI,⟨u,v,hTO⟩,q1,q2⟩:=st
  obtain⟨o1,_,e1,d1⟩:=q1.ob
  obtain⟨o2,_,e2,d2⟩:=q2.ob
  simp only[List.mem_cons,List.not_mem_nil,or_false]at hb
  rcases hb with rfl|rfl|rfl|rfl|rfl
  ·exact⟨_,hz,fun v z=>nomatch z⟩
  ·exact⟨_,hTI,fun v z=>nomatch z⟩
  ·exact⟨_,hTO,fun v z=>nomatch z⟩
  ·exact⟨o1,e1,fun v z=>by rw[d1]at z;cases z⟩
  ·exact⟨o2,e2,fun v z=>by rw[d2]at z;cases z⟩
 keep:=fun i h h' st k=>by
  obtain⟨hz,hTI,⟨u,v,hTO⟩,q1,q2⟩:=st
  exact⟨k z (by simp) _ hz,k TI (by simp) _ hTI,⟨u,v,k TO (by simp) _ hTO⟩,q1.at (k i1 (by simp)),q2.at (k i2 (by simp))⟩
 item:=by
  intro X hP hw hK hc i pins s σ H E I hf st hg
  subst hP hw hK
  obtain⟨xs,ys,x,y,hqa,hqc,hx,hy⟩:=hg
  obtain⟨its,rv,p⟩:=I.sqz hqa
  obtain⟨jts,rw',pl⟩:=I.sqz hqc
  obtain⟨u,hu,ru⟩:=rv.get hx
  obtain⟨v,hv,rv'⟩:=rw'.get hy
  obtain⟨hz,hTI,⟨u0,v0,hTO⟩,h1,h2⟩:=st
  refine wpAny_pyNext_zipG_item D hz hTI hTO h1 h2 p pl (by simpa using hu) (by simpa using hv) fun h' a1 a2 a3 a4 a5 a6 hk=>?_
  have I1:Inv X pins σ H {s with heap:=h'}:=I.turnedL (t':=s.toks) (ch:=[z,TI,TO,i1,i2]) (fun b o hb q=>hk b o (fun z=>hb (by simp[z])) (fun z=>hb (by simp[z])) (fun z=>hb (by simp[z])) (fun z=>hb (by simp[z])) q) fun b hb=>hf b hb
  refine⟨_,rfl,wpAny_letOwnedTupleGo_zip (s:={s with heap:=h'}) a1 fun h2' hz2' sb=>?_⟩
  have I2:Inv X pins σ H {s with heap:=h2'}:=Inv.turnedL (s:={s with heap:=h'}) (t':=s.toks) (ch:=[z]) I1 (fun b o hb q=>(sb.2 b (fun z=>hb (by simp[z]))).trans q) fun b hb=>by rw[List.mem_singleton.mp hb];exact hf z (by simp)
  have hn:H s.heap.objs.size=none:=I.hok.fresh (Nat.le_refl _)
  have fT:FpOk X pins H s.heap.objs.size:=I.fpOk (Nat.le_refl _) hn
  have hzT:s.heap.objs.size≠z:=Nat.ne_of_gt (Heap.lt_size hz)
  have hT2:h2'.get? s.heap.objs.size=some {cls:= .type "tuple",data:= .seq #[u,v]}:=(sb.2 _ hzT).trans a5
  refine⟨.ref s.heap.objs.size,upd H s.heap.objs.size (.tup [x,y]),I2.track fT I.sz ⟨le1000 rfl,[u,v],.cons ru (.cons rv' .nil),⟨_,hT2,rfl,_,rfl⟩⟩,rfl,
   ⟨_,x,y,rfl,hn,rfl,fun zs hs=>by rw[I.sqz_inj hs hqa];exact hx,fun zs hs=>by rw[I.sqz_inj hs hqc];exact hy⟩,
   ⟨hz2',(sb.2 _ D.TIz).trans (hk _ _ D.TIz D.TITO D.TIi1 D.TIi2 hTI),⟨_,_,(sb.2 _ D.TOz).trans a2⟩,a3.at fun _ e=>(sb.2 _ D.i1z).trans e,a4.at fun _ e=>(sb.2 _ D.i2z).trans e⟩,fun b hb=>?_⟩
  have fb:=(hf b hb).1
  rw[upd_ne]
  ·exact fb
  ·intro e
   have:∃o,s.heap.get? b=some o:=by
    simp only[List.mem_cons,List.not_mem_nil,or_false]at hb
    rcases hb with rfl|rfl|rfl|rfl|rfl
    ·exact⟨_,hz⟩
    ·exact⟨_,hTI⟩
    ·exact⟨_,hTO⟩
    ·obtain⟨o,_,q,_⟩:=h1.ob;exact⟨o,q⟩
    ·obtain⟨o,_,q,_⟩:=h2.ob;exact⟨o,q⟩
   obtain⟨o,q⟩:=this
   rw[e]at q
   exact Nat.lt_irrefl _ (Heap.lt_size q)
 done:=by
  intro X hP hw hK hc i pins s σ H E I hf st hg
  subst hP hw hK
  obtain⟨xs,ys,hqa,hqc,hend⟩:=hg
  obtain⟨its,rv,p⟩:=I.sqz hqa
  obtain⟨jts,rw',pl⟩:=I.sqz hqc
  have l1:=rv.length
  have l2:=rw'.length
  obtain⟨hz,hTI,⟨u0,v0,hTO⟩,h1,h2⟩:=st
  refine wpAny_pyNext_zipG_end (I.ok.hd hc) D hz hTI hTO h1 h2 p pl ?_ fun h' hk=>⟨rfl,I.turnedL (t':=s.toks) (ch:=[z,TI,TO,i1,i2]) (fun b o hb q=>hk b o (fun z=>hb (by simp[z])) (fun z=>hb (by simp[z])) (fun z=>hb (by simp[z])) (fun z=>hb (by simp[z])) q) fun b hb=>hf b hb⟩
  rcases hend with q|q
  ·exact .inl (by simp;omega)
  ·exact .inr (by simp;omega)
 self:=fun _ _ _ _ _ st h=>wpAny_pyIter_zip st.zip h
def iZipG(b1 b2:ZK)(K:PySem.W.Frag)(ta:TA):TI:=fun σ H R=>ta σ H fun vs H1=>∃a c,vs=[.ref a,.ref c]/\(∃xs,SqZ b1 K H1 a xs)/\(∃ys,SqZ b2 K H1 c ys)/\R (ItG b1 b2 K a c) H1
theorem pi_zipG{b1 b2:ZK}{X:Cx}{elts:List Expr}{x1:Nat}{tpos:Pos}{a b:Expr}{ta:TA}{p pos:Pos}(hg:Gl X "zip")(hm:X.mg "zip"=none)(ha:PA X [a,b] ta)(hpl:plainE a=true)(hpl2:plainE b=true):PI X (.Tuple elts x1 tpos) (.Call (.Name "zip" p) [a,b] [] pos) (iZipG b1 b2 X.K ta):=by
 intro pins s σ H R I h
 refine Call_ (ld_blt I hg hm boot_zip (PyProof.Rows.callWith_type1 (thn (ha pos pins s σ H _ I h) fun us s1 xq1=>?_) (star_cons hpl) (star_any (by simp[hpl2]))))
 obtain⟨vs,H1,I1,r1,q1⟩:=xq1
 obtain⟨a',c',e,⟨xs,hqa⟩,⟨ys,hqc⟩,q⟩:=q1
 subst e
 obtain⟨u,u',rfl,ru,ru'⟩:=vals2 r1
 cases(show u=Value.ref a' from ru)
 cases(show u'=Value.ref c' from ru')
 obtain⟨its,rv,pt⟩:=I1.sqz hqa
 obtain⟨jts,rw',pl⟩:=I1.sqz hqc
 have la:=pt.lt
 have lc:=pl.lt
 refine call_zipG pt pl fun h' hz hTI hTO h1 h2 hsz hk=>?_
 have I2:Inv X pins σ H1 {s1 with heap:=h'}:=I1.kept (t':=s1.toks) hk
 refine wpAny_pyIter_zip (s:={s1 with heap:=h'}) hz ?_
 refine⟨s1.heap.objs.size+4,[s1.heap.objs.size+4,s1.heap.objs.size+2,s1.heap.objs.size+3,s1.heap.objs.size,s1.heap.objs.size+1],_,_,H1,rfl,I2,
  turn_zip3 _ _ _ _ _ a' c' (zipApart_new la lc),⟨hz,hTI,⟨_,_,hTO⟩,h1,h2⟩,fun b hb=>?_,q⟩
 have hle:s1.heap.objs.size<=b:=by
  simp only[List.mem_cons,List.not_mem_nil,or_false]at hb
  rcases hb with rfl|rfl|rfl|rfl|rfl
  ·exact Nat.le_add_right _ _
  ·exact Nat.le_add_right _ _
  ·exact Nat.le_add_right _ _
  ·exact Nat.le_refl _
  ·exact Nat.le_add_right _ _
 exact I1.fpOk hle (I1.hok.fresh hle)
theorem for_zipG{b1 b2:ZK}{K:PySem.W.Frag}{a c:Addr}{xs ys:List V}{g:TG}{tb:TS}{D:Ends}{σ:St}{H:Hp}(Pv:Nat->St->Hp->Prop)(hlen:xs.length=ys.length)(h0:Pv 0 σ H)(hl:∀i σ H,i<=xs.length->Pv i σ H->SqZ b1 K H a xs/\SqZ b2 K H c ys)
  (hs:∀i x y σ H,xs[i]?=some x->ys[i]?=some y->Pv i σ H->∀T H1,Same H H1->H1 T=some (.tup [x,y])->g (.ref T) σ H1 fun σ2 H2=>tb {D with nx:=Pv (i+1),ct:=Pv (i+1),bk:=D.nx} σ2 H2) (hd:∀σ H,Pv xs.length σ H->D.nx σ H):
  ∃W:Nat->Nat->St->Hp->Prop,(∃m,W 0 m σ H)/\∀i m σ H,W i m σ H->
   ((ItG b1 b2 K a c).stop i H/\D.nx σ H)\/((ItG b1 b2 K a c).go i H/\∃N:St->Hp->Prop,(∀σ' H',N σ' H'->∃m',m'<m/\W (i+1) m' σ' H')/\∀x H',(ItG b1 b2 K a c).yld i H x H'->g x σ H' fun σ2 H2=>tb {D with nx:=N,ct:=N,bk:=D.nx} σ2 H2):=by
 refine⟨fun i m σ H=>m=xs.length-i/\i<=xs.length/\Pv i σ H,⟨xs.length,by simp,Nat.zero_le _,h0⟩,?_⟩
 rintro i m σ H ⟨rfl,hi,p⟩
 obtain⟨q1,q2⟩:=hl i σ H hi p
 by_cases hlt:i<xs.length
 ·have hlt2:i<ys.length:=by omega
  refine .inr ⟨⟨xs,ys,xs[i],ys[i],q1,q2,by simp[hlt],by simp[hlt2]⟩,Pv (i+1),fun σ' H' p'=>⟨xs.length-(i+1),by omega,rfl,hlt,p'⟩,fun x H' y=>?_⟩
  obtain⟨T,u,v,rfl,hT,rfl,hu,hv⟩:=y
  exact hs i u v σ H (hu xs q1) (hv ys q2) p T _ (same_add hT) upd_same
 ·have e:i=xs.length:=by omega
  subst e
  exact .inl ⟨⟨xs,ys,q1,q2,.inl (Nat.le_refl _)⟩,hd σ H p⟩
theorem pi_zip:type_of%(@pi_zipG .t .l):=pi_zipG
theorem for_zip:type_of%(@for_zipG .t .l):=for_zipG
abbrev iZip:=iZipG .t .l
theorem pi_zipT:type_of%(@pi_zipG .t .t):=pi_zipG
abbrev iZipT:=iZipG .t .t
def tLCZ(K:PySem.W.Frag)(bs:List (Option Nat))(ta:TA)(g:TG)(tt:TT)(te:TE):TE:=fun σ H Q=>ta σ H fun vs H1=>∃a c xs ys,vs=[.ref a,.ref c]/\SqT K H1 a xs/\SqT K H1 c ys/\xs.length=ys.length/\xs.length<=100000/\∃Pv:Nat->List V->St->Hp->Prop,Pv 0 [] (bst bs σ) H1/\
 (∀i zs σ H,i<=xs.length->Pv i zs σ H->SqT K H a xs/\SqT K H c ys/\zs.length<=i)/\
 (∀i x y zs σ H,xs[i]?=some x->ys[i]?=some y->Pv i zs σ H->∀T H2,Same H H2->H2 T=some (.tup [x,y])->g (.ref T) σ H2 fun σ3 H3=>tt σ3 H3 fun b H4=>if b=true then te σ3 H4 fun v H5=>Pv (i+1) (zs++[v]) σ3 H5 else Pv (i+1) zs σ3 H4)/\
 ∀zs σ H,Pv xs.length zs σ H->∀p H',Same H H'->H' p=some (.lst zs)->Q (.ref p) H'
theorem pe_lcZ{a b elt}{ifs}{p pos' pos}{ta}{g}{tt}{te}(B:Blk X scope cl N bs)(hc:X.calm=true)
  (hgl:Gl X "zip")(hmr:X.mg "zip"=none)(ha:PA X [a,b] ta)(hm:MonoA ta)(hpl:plainE a=true)(hpl2:plainE b=true)(hg:∀C fp s H,PG (cxBlk X scope cl C N fp s H) (.Tuple elts x1 tpos) g) (ht:∀C fp s H,PTs (cxBlk X scope cl C N fp s H) ifs tt) (he:∀C fp s H,PE (cxBlk X scope cl C N fp s H) elt te)
  (hs:∀x,foldedSetIterable (.Call (.Name "zip" p) [a,b] [] pos') X.env x=pure x:=by intro _;rfl):PE X (.ListComp elt [⟨.Tuple elts x1 tpos,.Call (.Name "zip" p) [a,b] [] pos',ifs,0⟩] scope pos) (tLCZ X.K bs ta g tt te):=by
 refine fun n s σ H Q I h=>@pe_lc X scope cl N bs _ _ elt ifs pos (iZipT X.K ta) g tt te B hc (@pi_zipT X elts x1 tpos a b ta p pos' hgl hmr ha hpl hpl2) hg ht he hs n s σ H Q I (hm σ H _ _ (fun vs H1 h=>?_) h)
 obtain⟨a,c,d,k,e,A,w,_,hz,z,p0,pl,ps,pd⟩:=h
 refine⟨a,c,e,⟨d,A⟩,⟨k,w⟩,fun i m j σ H=>m=d.length-i/\i<=d.length/\z i j σ H,⟨d.length,by simp,Nat.zero_le _,p0⟩,?_⟩
 rintro i m j σ H ⟨rfl,hi,f⟩
 obtain⟨q,r,ql⟩:=pl i j σ H hi f
 have hz':=leMil hz
 by_cases l:i<d.length
 ·refine .inr ⟨⟨d,k,d[i],k[i],q,r,by simp[l],by simp[(show i<k.length by omega)]⟩,by omega,z (i+1),fun j σ' H' p'=>⟨d.length-(i+1),by omega,rfl,l,p'⟩,fun x H' y=>?_⟩
  obtain⟨T,u,v,rfl,hT,rfl,hu,hv⟩:=y
  exact ps i u v j σ H (hu d q) (hv k r) f T _ (same_add hT) upd_same
 ·have e:i=d.length:=by omega
  subst e
  exact .inl ⟨⟨d,k,q,r,.inl (Nat.le_refl _)⟩,by omega,fun p t=>pd j σ H f p _ (same_add t) upd_same⟩
theorem pc_dnotinNK{P}{w}{i o}{ty td}(hP:X.prog=P)(hw:X.w=w)(hi:PE X i ty)(ho:PE X o td):PC X .NotIn i o (tDNotInN P w ty td):=by
 subst hP
 cases hw
 exact pc_dnotinN hi ho
structure Mk0(K:PySem.W.Frag)(C:Addr):Prop where
 makes:PySem.W.makesIn K C=true
 init:PySem.W.findIn K (.ref C) "__init__"=some (some (.builtin "object.__init__"))
 kp:PySem.W.keepIn K (.ref C)=true
structure OwnC(K:PySem.W.Frag)(C:Addr):Prop where
 cl:Cls K C
 ha:PySem.W.findIn K (.ref C) "__class__"=some (some (.builtin "object.__class__"))
 hn:PySem.W.specialIn K (.builtin "object.__class__") "__get__"=some (some (.builtin "getset_descriptor.__get__"))
 htk:PySem.W.takesIn K (.builtin "object.__class__")=some true
 hm:PySem.W.mroIn K C (.type "object")=some true
theorem OwnC.ty{K:PySem.W.Frag}{H:Hp}{a C dx:Addr}{fs:List _}(o:OwnC K C)(e:H a=some (.ins C dx fs)):TyOf K H (.ref a) (.ref C):= .ins e o.cl o.ha o.hn o.htk o.hm
section
variable{X:Cx}
def tNew(C:Addr):TE:=fun _ H Q=>∀x dx,H x=none->H dx=none->dx≠x->Q (.ref x) (upd (upd H dx (.own x)) x (.ins C dx []))
theorem pe_new{x}{C}{p pos}(M:Mk0 X.K C)(hg:Gl X x)(hm:X.mg x=some (.ref C))(hdb:(x==("__debug__":Str))=false:=by decide):PE X (.Call (.Name x p) [] [] pos) (tNew C):=by
 refine fun _ s σ H Q I h=>wpAny_Call_Name_kw (ld_glob I hg hm (PySem.W.callWith_K0 I.kIn M.kp (wpAny_call (make_map0 I.kIn M.makes M.init (fun f=>PySem.W.Looks.of_pure (PySem.W.oi_bind f)) ?_))) hdb)
 have g:((s.heap.push PySem.W.emptyDict).push (PySem.W.instObj C s.heap.objs.size)).get? (s.heap.objs.size+1)=some (PySem.W.instObj C s.heap.objs.size):=by
  have:=Heap.get?_push_size (s.heap.push PySem.W.emptyDict) (o:=PySem.W.instObj C s.heap.objs.size) rfl
  simp_all
 refine codeAny_call_builtin PySem.W.oi_plain PySem.W.entry_oi (@PySem.W.check_slot (model X.prog X.w) _ _ _ "object.__init__" "object" "__init__" (.ref (s.heap.objs.size+1)) [] [] _ PySem.W.oi_kind PySem.W.oi_split (show PySem.W.Looks (model X.prog X.w) ((s.heap.push PySem.W.emptyDict).push (PySem.W.instObj C s.heap.objs.size)) (isInstance (.ref (s.heap.objs.size+1)) (.type "object")) _ from(show PySem.W.Looks (model X.prog X.w) ((s.heap.push PySem.W.emptyDict).push (PySem.W.instObj C s.heap.objs.size)) (typeOf (.ref (s.heap.objs.size+1))) (.ref C)from(PySem.W.Looks.ld g).andThen .now).andThen ((PySem.W.makes_of (M:=model X.prog X.w) I.kIn M.makes).top.keeps fun b o e=>Heap.get?_push_of_some _ (Heap.get?_push_of_some _ e))) (PySem.W.oi_args (.ref (s.heap.objs.size+1))) ?_)
 exact wpAny_pure (And.intro rfl ⟨.ref (s.heap.objs.size+1),_,(Inv.made (C:=C) I),rfl,(h (s.heap.objs.size+1) s.heap.objs.size (I.hok.fresh (Nat.le_succ _)) (I.hok.fresh (Nat.le_refl _)) (Nat.ne_of_lt (Nat.lt_succ_self _)))⟩)
end
end L2
namespace SetT
open PySem PySem.SetTable PySem.Spec PyProof.Rows
def ival:Value->Int
 | .int i _=>i
 |_=>0
def byT(w:World):Bool:=w.params.followText "set-order"
def SI(prog:Program)(w:World)(h:Heap)(a:Addr)(ks:List Int):Prop:=
 ∃o es ep t,h.get? a=some o/\o.ExactSet/\o.data= .set es ep t/\SetOk t es/\Mk t.mask/\es.size*5<t.mask*3/\t.plain=true/\t.led= !byT w/\ElemsOf (intKind prog w) es.toList/\(es.toList.map fun e=>ival e.2).Perm ks
variable{prog:Program}{w:World}{A:Around}{E:Value->Shared->Prop}{s:Shared}
theorem SI.at'{h h':Heap}{a:Addr}{ks:List Int}(x:SI prog w h a ks)(k:∀o,h.get? a=some o->h'.get? a=some o):SI prog w h' a ks:=let⟨o,es,ep,t,ho,r⟩:=x;⟨o,es,ep,t,k o ho,r⟩
def IsSI(h:Heap)(it a:Addr)(slot i n ep:Nat):Prop:=∃o,h.get? it=some o/\o.cls= .type "set_iterator"/\o.data= .fields #[.int slot 0,.int i 0,.ref a,.int n 0,.int ep 0]
theorem IsSI.typeIs{s:Shared}{it a:Addr}{slot i n ep:Nat}(x:IsSI s.heap it a slot i n ep):s.TypeIs (.ref it) "set_iterator":=let⟨o,ho,hc,_⟩:=x;⟨o,ho,hc⟩
variable{prog:Program}{w:World}{A:Around}{E:Value->Shared->Prop}{s:Shared}
end SetT
namespace L2
open PySem PySem.Spec PyProof.Rows
theorem FnOk.or{P}{w}{K}{mg}{base}{CX}{k:Nat}{f:Addr}{fd:FuncData}{ps:List _}{sp sp':Sp}(a:FnOk P w K mg base CX k f fd ps sp)(b:FnOk P w K mg base CX k f fd ps sp'):
  FnOk P w K mg base CX k f fd ps (fun vs H Q E=>sp vs H Q E\/sp' vs H Q E):=
 ⟨fun vs H Q E h=>h.elim (a.len vs H Q E) (b.len vs H Q E),fun A c s H d j vs Q E g i e l h=>h.elim (a.run A c s H d j vs Q E g i e l) (b.run A c s H d j vs Q E g i e l)⟩
theorem FnE.imp{P:Program}{w:World}{K:PySem.W.Frag}{mg:Str->Option Value}{base:Heap}{x:Str}{ps:List Str}{k:Nat}{sp sp':Sp}(F:FnE P w K mg base x ps k sp)(h:∀vs H Q E,sp' vs H Q E->sp vs H Q E):FnE P w K mg base x ps k sp':=
 let⟨f,fd,a,b⟩:=F.ex;⟨f,fd,a.imp h,b⟩
def Its(x:Str):It:=⟨fun i _=>i<x.cps.size,fun i H v H'=>H'=H/\∃c,x.cps[i]?=some c/\v= .str ⟨#[c]⟩,fun i _=>x.cps.size<=i⟩
theorem turn_strA{P:Program}{w:World}{K:PySem.W.Frag}{tg:Expr}(it:Addr)(x:Str)(t:Tok):Turn P w K tg (Its x) [it] it (fun i h=>h.IsStrIter it "str_ascii_iterator" x t i)where
 mem:=by simp
 obj:=fun i h st b hb=>by
  have e:b=it:=by simpa using hb
  subst e
  obtain⟨o,e,c,d⟩:=st
  exact⟨o,e,fun v z=>by rw[d]at z;cases z⟩
 keep:=fun i h h' st k=>let⟨o,e,r⟩:=st;⟨o,k it (by simp) o e,r⟩
 item:=by
  intro X hP hw hK hc i pins s σ H E I hf st hg
  subst hP hw hK
  obtain⟨f0,f1,f2,f3,f4,f5⟩:=hf it (by simp)
  have hx:x.cps[i]?=some (x.cps[i]'hg):=Array.getElem?_eq_getElem hg
  refine wpAny_pyNext_ascii_item st hx fun h' st' sb=>?_
  have I1:Inv X pins σ H {s with heap:=h',toks:=s.toks+1}:=I.turned (t':=s.toks+1) (fun b o hb e=>(sb.2 b hb).trans e) f0 f1 f3 f4 f5
  obtain⟨o,e,c,d⟩:=id st'
  exact⟨_,rfl,go_of (s:={s with heap:=h',toks:=s.toks+1}) e c d (by decide) ⟨.str ⟨#[x.cps[i]'hg]⟩,H,I1,⟨_,rfl⟩,⟨rfl,_,hx,rfl⟩,st',fun b hb=>(hf b hb).1⟩⟩
 done:=by
  intro X hP hw hK hc i pins s σ H E I hf st hg
  subst hP hw hK
  obtain⟨f0,f1,f2,f3,f4,f5⟩:=hf it (by simp)
  exact wpAny_pyNext_ascii_end (I.ok.hd hc) st (Array.getElem?_eq_none hg) fun h' eb=>⟨rfl,I.turned (t':=s.toks) (fun b o hb e=>eb b o hb e) f0 f1 f3 f4 f5⟩
 self:=fun _ _ _ _ _ st h=>wpAny_pyIter_striter_ascii st h
theorem turn_strW{P:Program}{w:World}{K:PySem.W.Frag}{tg:Expr}(it:Addr)(x:Str)(t:Tok):Turn P w K tg (Its x) [it] it (fun i h=>h.IsStrIter it "str_iterator" x t i)where
 mem:=by simp
 obj:=fun i h st b hb=>by
  have e:b=it:=by simpa using hb
  subst e
  obtain⟨o,e,c,d⟩:=st
  exact⟨o,e,fun v z=>by rw[d]at z;cases z⟩
 keep:=fun i h h' st k=>let⟨o,e,r⟩:=st;⟨o,k it (by simp) o e,r⟩
 item:=by
  intro X hP hw hK hc i pins s σ H E I hf st hg
  subst hP hw hK
  obtain⟨f0,f1,f2,f3,f4,f5⟩:=hf it (by simp)
  have hx:x.cps[i]?=some (x.cps[i]'hg):=Array.getElem?_eq_getElem hg
  refine wpAny_pyNext_wide_item st hx fun h' st' sb=>?_
  have I1:Inv X pins σ H {s with heap:=h',toks:=s.toks+1}:=I.turned (t':=s.toks+1) (fun b o hb e=>(sb.2 b hb).trans e) f0 f1 f3 f4 f5
  obtain⟨o,e,c,d⟩:=id st'
  exact⟨_,rfl,go_of (s:={s with heap:=h',toks:=s.toks+1}) e c d (by decide) ⟨.str ⟨#[x.cps[i]'hg]⟩,H,I1,⟨_,rfl⟩,⟨rfl,_,hx,rfl⟩,st',fun b hb=>(hf b hb).1⟩⟩
 done:=by
  intro X hP hw hK hc i pins s σ H E I hf st hg
  subst hP hw hK
  obtain⟨f0,f1,f2,f3,f4,f5⟩:=hf it (by simp)
  exact wpAny_pyNext_wide_end (I.ok.hd hc) st (Array.getElem?_eq_none hg) fun h' eb=>⟨rfl,I.turned (t':=s.toks) (fun b o hb e=>eb b o hb e) f0 f1 f3 f4 f5⟩
 self:=fun _ _ _ _ _ st h=>wpAny_pyIter_striter_wide st h
section
variable{X:Cx}
def iStr(tl:TE):TI:=fun σ H R=>tl σ H fun x H1=>∃z,x= .str z/\R (Its z) H1
theorem pi_str{tg l:Expr}{tl:TE}(hl:PE X l tl):PI X tg l (iStr tl):=by
 intro pins s σ H R I h
 refine thn (hl pins s σ H _ I h) fun v s1 xq1=>?_
 obtain⟨x,H1,I1,r1,q1⟩:=xq1
 obtain⟨z,e,q⟩:=q1
 subst e
 obtain⟨t,rfl⟩:=(show∃t,v=Value.str z t from r1)
 have fp:∀b∈[s1.heap.objs.size],FpOk X pins H1 b:=fun b hb=>by
  have e:b=s1.heap.objs.size:=by simpa using hb
  subst e
  exact I1.fpOk (Nat.le_refl _) (I1.hok.fresh (Nat.le_refl _))
 cases ha:z.cps.all (·<128)
 ·exact wpAny_pyIter_wide ha ⟨s1.heap.objs.size,[s1.heap.objs.size],_,_,H1,rfl,I1.kept (t':=s1.toks) fun b o e=>Heap.get?_push_of_some _ e,turn_strW _ z t,⟨_,Heap.get?_push_size _ rfl,rfl,rfl⟩,fp,q⟩
 ·exact wpAny_pyIter_ascii ha ⟨s1.heap.objs.size,[s1.heap.objs.size],_,_,H1,rfl,I1.kept (t':=s1.toks) fun b o e=>Heap.get?_push_of_some _ e,turn_strA _ z t,⟨_,Heap.get?_push_size _ rfl,rfl,rfl⟩,fp,q⟩
theorem lc_str{z:Str}{g:TG}{tt:TT}{te:TE}{σ:St}{H:Hp}{Q:VK}(Pv:Nat->List V->St->Hp->Prop)(hz:z.cps.size<=sizeLine)(h0:Pv 0 [] σ H)(hl:∀i ys σ H,i<=z.cps.size->Pv i ys σ H->ys.length<=i)
  (hs:∀i c ys σ H,z.cps[i]?=some c->Pv i ys σ H->g (.str ⟨#[c]⟩) σ H fun σ3 H3=>tt σ3 H3 fun b H4=>if b=true then te σ3 H4 fun v H5=>Pv (i+1) (ys++[v]) σ3 H5 else Pv (i+1) ys σ3 H4)
  (hd:∀ys σ H,Pv z.cps.size ys σ H->∀p,H p=none->Q (.ref p) (upd H p (.lst ys))):
  ∃W:Nat->Nat->List V->St->Hp->Prop,(∃m,W 0 m [] σ H)/\∀i m ys σ' H',W i m ys σ' H'->
   ((Its z).stop i H'/\ys.length<=sizeLine/\∀p,H' p=none->Q (.ref p) (upd H' p (.lst ys)))\/
   ((Its z).go i H'/\ys.length<sizeLine/\∃N:List V->St->Hp->Prop,(∀zs σ2 H2,N zs σ2 H2->∃m',m'<m/\W (i+1) m' zs σ2 H2)/\∀x H2,(Its z).yld i H' x H2->g x σ' H2 fun σ3 H3=>tt σ3 H3 fun b H4=>
    if b=true then te σ3 H4 fun v H5=>N (ys++[v]) σ3 H5 else N ys σ3 H4):=by
 refine⟨fun i m ys σ H=>m=z.cps.size-i/\i<=z.cps.size/\Pv i ys σ H,⟨z.cps.size,by simp,Nat.zero_le _,h0⟩,?_⟩
 rintro i m ys σ H ⟨rfl,hi,p⟩
 have ql:=hl i ys σ H hi p
 by_cases hlt:i<z.cps.size
 ·refine .inr ⟨hlt,by omega,Pv (i+1),fun zs σ' H' p'=>⟨z.cps.size-(i+1),by omega,rfl,hlt,p'⟩,fun x H' y=>?_⟩
  obtain⟨e,c,hc,y⟩:=y
  subst e
  subst y
  exact hs i c ys σ _ hc p
 ·have e:i=z.cps.size:=by omega
  subst e
  exact .inl ⟨Nat.le_refl _,by omega,hd ys σ H p⟩
def tLCS(bs:List (Option Nat))(tl:TE)(g:TG)(tt:TT)(te:TE):TE:=fun σ H Q=>tl σ H fun x H1=>∃z:Str,x= .str z/\z.cps.size<=100000/\∃Pv:Nat->List V->St->Hp->Prop,Pv 0 [] (bst bs σ) H1/\
 (∀i ys σ H,i<=z.cps.size->Pv i ys σ H->ys.length<=i)/\
 (∀i c ys σ H,z.cps[i]?=some c->Pv i ys σ H->g (.str ⟨#[c]⟩) σ H fun σ3 H3=>tt σ3 H3 fun b H4=>if b=true then te σ3 H4 fun v H5=>Pv (i+1) (ys++[v]) σ3 H5 else Pv (i+1) ys σ3 H4)/\
 ∀ys σ H,Pv z.cps.size ys σ H->∀p H',Same H H'->H' p=some (.lst ys)->Q (.ref p) H'
theorem pe_lcS{scope:Scope}{cl:List (Str×Addr)}{N:List Str}{bs:List (Option Nat)}{tg iter elt:Expr}{ifs:List Expr}{pos:Pos}{tl:TE}{g:TG}{tt:TT}{te:TE}(B:Blk X scope cl N bs)(hc:X.calm=true)
  (hl:PE X iter tl)(hm:MonoE tl)(hg:∀C fp s H,PG (cxBlk X scope cl C N fp s H) tg g) (ht:∀C fp s H,PTs (cxBlk X scope cl C N fp s H) ifs tt) (he:∀C fp s H,PE (cxBlk X scope cl C N fp s H) elt te)
  (hs:∀x,foldedSetIterable iter X.env x=pure x:=by intro _;rfl):PE X (.ListComp elt [⟨tg,iter,ifs,0⟩] scope pos) (tLCS bs tl g tt te):=by
 intro pins s σ H Q I h
 refine @pe_lc X scope cl N bs tg iter elt ifs pos (iStr tl) g tt te B hc (pi_str hl) hg ht he hs pins s σ H Q I ?_
 refine hm σ H _ _ (fun x H1 h=>?_) h
 obtain⟨z,e,hz,Pv,p0,pl,ps,pd⟩:=h
 exact⟨z,e,lc_str (Q:=Q) Pv (leMil hz) p0 pl ps fun ys σ H hp p hpn=>pd ys σ H hp p _ (same_add hpn) upd_same⟩
theorem strsAre_of:∀{ts:List Str}{us:List Value},Vals (ts.map V.str) us->StrsAre us ts
 |[],_,h=>by cases h;exact .nil
 |a::ts,_,h=>by
  cases h with
  |cons r h=>
   obtain⟨t,rfl⟩:=(show∃t,_=Value.str a t from r)
   exact .cons a t (strsAre_of h)
inductive rJoin(K:PySem.W.Frag)(x:V)(vs:List V)(H:Hp)(Q:VK):Prop
 |mk (sep:Str) (l:Addr) (ts:List Str) (_:x= .str sep) (_:vs=[.ref l]) (_:SqL K H l (ts.map V.str)) (_:sep.length<=16) (_:(ts.map (·.length)).sum+ts.length<=1048576) (_:Q (.str (Str.join sep ts)) H)
theorem mt_join:MtR X "str.join" (rJoin X.K):=by
 intro pins s σ H x vs v us Q I rx rv h
 obtain⟨sep,l,ts,rfl,rfl,hl,hs,hw,q⟩:=h
 obtain⟨t,rfl⟩:=(show∃t,v=Value.str sep t from rx)
 obtain⟨u,rfl,ru⟩:=rv.one
 cases ru
 obtain⟨its,r,pl,hz⟩:=I.list hl
 refine join_listW pl.isList (strsAre_of (by simpa using r)) hs hw fun t' k=>?_
 rw[show Txt.join sep ts=Str.join sep ts from PySem.StrLaws.glued_eq_join sep ts]
 exact⟨.str _,H,I.tok k,⟨_,rfl⟩,q⟩
def FmV(v:V)(z:Str):Prop:=(v= .str z/\z.length<=100000)\/∃n:Int,v= .int n/\n.natAbs.log2<1920/\z=Str.ofString (toString n)
def PJ(X:Cx)(e:Expr)(t:TE):Prop:=∀(pins:List (Addr×Obj))(s:Shared)(σ:St)(H:Hp)(Q:Str->Hp->Prop),Inv X pins σ H s->(t σ H fun v H1=>∃z,FmV v z/\Q z H1)->
 wpAny (model X.prog X.w) X.A (eval e X.env) (fun u s1=>∃z tk H1,u= .str z tk/\Inv X pins σ H1 s1/\Q z H1) X.xe s
theorem pj_str{x:Str}{j:Nat}{pos:Pos}:PJ X (.Constant (.str x) j pos) (tC (.str x)):=by
 intro pins s σ H Q I ⟨z,f,q⟩
 refine thn (pe_str pins s σ H (fun v H1=>v= .str x/\H1=H) I ⟨rfl,rfl⟩) fun u s1 xq1=>?_
 obtain⟨v,H1,I1,r,e1,e2⟩:=xq1
 subst e1 e2
 obtain⟨t,rfl⟩:=(show∃t,u=Value.str x t from r)
 rcases f with⟨f,_⟩|⟨n,f,_⟩
 ·cases f
  exact⟨x,t,H1,rfl,I1,q⟩
 ·cases f
theorem pj_fmt{e:Expr}{te:TE}{pos:Pos}(he:PE X e te):PJ X (.FormattedValue e (-1) none pos) te:=by
 intro pins s σ H Q I h
 refine FormattedValue_plain (thn (he pins s σ H _ I h) fun u s1 xq1=>?_)
 obtain⟨v,H1,I1,r,z,f,q⟩:=xq1
 rcases f with⟨rfl,hz⟩|⟨n,rfl,hn,rfl⟩
 ·obtain⟨t,rfl⟩:=(show∃t,u=Value.str z t from r)
  exact formatField_str (fun t' tk=>⟨z,t',H1,rfl,I1.tok tk,q⟩) (leMil hz)
 ·obtain⟨t,rfl⟩:=(show∃t,u=Value.int n t from r)
  exact formatField_int_small hn ⟨_,_,H1,rfl,I1.tok _,q⟩
def tJs:List TE->Str->TE
 |[],out=>fun _ H Q=>out.length<=100000/\Q (.str out) H
 |t::ts,out=>fun σ H Q=>t σ H fun v H1=>∃z,FmV v z/\(out++z).length<=100000/\tJs ts (out++z) σ H1 Q
def PJs(X:Cx)(es:List Expr)(ts:List TE):Prop:=∀(out:Str)(pins:List (Addr×Obj))(s:Shared)(σ:St)(H:Hp)(Q:VK),Inv X pins σ H s->tJs ts out σ H Q->wpAny (model X.prog X.w) X.A (joinParts out (evalEach es X.env)) (EP X pins σ Q) X.xe s
theorem pjs_nil:PJs X [] []:=fun out pins s σ H Q I h=>joinParts_nil ⟨.str out,H,I.tok _,⟨_,rfl⟩,h.2⟩ (leMil h.1)
theorem pjs_cons{e:Expr}{es:List Expr}{t:TE}{ts:List TE}(h:PJ X e t)(hr:PJs X es ts):PJs X (e::es) (t::ts):=by
 intro out pins s σ H Q I q
 show wpAny (model X.prog X.w) X.A (joinParts out (eval e X.env::evalEach es X.env)) (EP X pins σ Q) X.xe s
 refine joinParts_cons (thn (h pins s σ H (fun z H1=>(out++z).length<=100000/\tJs ts (out++z) σ H1 Q) I q) fun u s1 xq1=>?_)
 obtain⟨z,tk,H1,e,I1,q1,q2⟩:=xq1
 subst e
 exact⟨leMil q1,hr (out++z) pins s1 σ H1 Q I1 q2⟩
theorem pe_fstr{v1 v2:Expr}{rest:List Expr}{ts:List TE}{pos:Pos}(h:PJs X (v1::v2::rest) ts):PE X (.JoinedStr (v1::v2::rest) pos) (tJs ts Str.empty):=fun pins s σ H Q I q=>JoinedStr_many (h Str.empty pins s σ H Q I q)
end
end L2
namespace PySem.W
open PySem PySem.Spec PySem.Calls PyProof.Rows PyProof.V
section
variable{prog:Program}{w:World}{A:Around}{E:Value->Shared->Prop}{s:Shared}{r d:Addr}{n:Nat}{P:Nat->Value->Prop}{OK:Heap->Prop}
theorem meets_tuple_new_dict(K:KdlSrc prog w "dict" r d n P OK)(hn:n<=sizeLine):
  MeetsIn prog w (Builtin.«tuple.__new__» ⟨[.type "tuple",.ref r],[]⟩)
   (fun A R s=>A.handled=none/\OK s.heap/\∀(h':Heap)(tk:Nat)(acc:Array Value),(∀b o,s.heap.get? b=some o->h'.get? b=some o)->ItemsOf P acc n->
    R (.ok (.ret (.ref h'.objs.size))) {s with heap:=h'.push {cls:= .type "tuple",data:= .seq acc},toks:=tk}):=
 MeetsIn.of_wp fun A R s h=>by
  obtain⟨hh,hok,h⟩:=h
  have hsub:=sub_tuple_self
  have hinit:=init_tuple_lookup
  have hmh:=madeHere_tuple
  have hT:s.TypeIs (.ref r) "dict":=K.type s hok
  have hh1:A.in1.handled=none:=hh
  wp_walk using wpAny_typeOf hT,dcollect K hh1 hok hn
  intro h' tk acc hk hsz hacc
  show wpAny _ _ (Builtin.Tuple.tupleExact acc.toList.toArray>>=fun v=>ret v) _ _ _
  unfold Builtin.Tuple.tupleExact
  refine wpAny_bind (wpAny_newObj_type ?_ (show acc.toList.toArray.size<=sizeLine by simp only[Array.toArray_toList];rw[hacc.1];exact hn))
  refine wpAny_pure ⟨_,rfl,?_⟩
  have e:acc.toList.toArray=acc:=by simp
  rw[e]
  exact h h' tk acc hk hacc
theorem call_tuple_dict{Q:Value->Shared->Prop}(K:KdlSrc prog w "dict" r d n P OK)(hh:A.handled=none)(hok:OK s.heap)(hn:n<=sizeLine)
  (h:∀(h':Heap)(tk:Nat)(acc:Array Value),(∀b o,s.heap.get? b=some o->h'.get? b=some o)->ItemsOf P acc n->Q (.ref h'.objs.size) {s with heap:=h'.push {cls:= .type "tuple",data:= .seq acc},toks:=tk}):
  wpAny (model prog w) A (call (.type "tuple") [.ref r]) Q E s:=
 callType_newIn PySem.F.called_tuple (by decide) (PySem.F.typeCall_tuple_1 _) (PySem.F.newCall_tuple_1 _) (fun obj=>PySem.F.args_object_init_2 obj _) PySem.F.entry_tuple_new
  (meets_tuple_new_dict K hn) ⟨hh,hok,fun h' tk acc hk hacc=>⟨⟨_,Heap.get?_push_size _ rfl,rfl⟩,h h' tk acc hk hacc⟩⟩
end
end PySem.W
namespace L2
open PySem PySem.Spec PyProof.Rows
theorem key_rel{P:Program}{w:World}{k:Key}{u:Value}(h:(mixKind P w).is k u=true):RelV (kV k) u:=by
 cases k with
 |inl i=>
  obtain⟨t,e⟩:=Value.isInt_shape (k:=i) (v:=u) h
  exact⟨t,e⟩
 |inr z=>
  cases u with
  |str y t=>
   have e:y=z:=eq_of_beq h
   exact⟨t,by rw[e]⟩
  |_=>exact absurd (show false=true from h) (by decide)
section
variable{X:Cx}
theorem kv_keys:∀{kvs:List (Key×V)}{vs:List (Key×Value)},KV kvs vs->vs.map (·.1)=kvs.map (·.1):=by
 intro kvs vs r
 induction r with
 |nil=>rfl
 |cons h _ ih=>rw[List.map_cons,List.map_cons,ih,h.1]
theorem vals_by:∀(xs:List V)(us:List Value),us.length=xs.length->(∀(i:Nat) x u,xs[i]?=some x->us[i]?=some u->RelV x u)->Vals xs us
 |[],[],_,_=> .nil
 |[],_::_,h,_=>by cases h
 |_::_,[],h,_=>by cases h
 |x::xs,u::us,h,r=> .cons (r 0 x u rfl rfl) (vals_by xs us (by simpa using h) fun i x' u' a b=>r (i+1) x' u' a b)
inductive rTupD(xs:List V)(H:Hp)(Q:VK):Prop
 |mk (d:_) (kvs:List (Key×V)) (_:xs=[.ref d]) (_:H d=some (.dK kvs)) (_:kvs.length<=100000) (_:∀p H',Same H H'->H' p=some (.tup (kvs.map fun kv=>kV kv.1))->Q (.ref p) H')
theorem call_tupleD{k:Nat}(hr:Room k X.A):CallR X (.type "tuple") rTupD:=by
 intro pins s σ H xs us Q I r h
 obtain⟨d,kvs,rfl,hd,hn,q⟩:=h
 obtain⟨u,rfl,rx⟩:=vals1 r
 cases(show u=Value.ref d from rx)
 obtain⟨z,lo,vs,rel,dd⟩:=dk_of I.hok hd
 have hvl:kvs.length=vs.length:=Paired.length rel
 obtain⟨ep,hat⟩:=dd.dictAt
 refine PySem.W.call_tuple_dict (PySem.W.kdl_dict (knd:=mixKind X.prog X.w) (kvs:=vs) (ep:=ep) lo) hr.hd hat (leMil (by omega)) fun h' tk acc hk hacc=>?_
 have I1:Inv X pins σ H {s with heap:=h',toks:=tk}:=I.kept (t':=tk) hk
 have hlen:acc.toList.length=(kvs.map fun kv=>kV kv.1).length:=by rw[Array.length_toList,List.length_map,hacc.1,hvl]
 have hv:Vals (kvs.map fun kv=>kV kv.1) acc.toList:=vals_by _ _ hlen fun i x u hx hu=>by
  obtain⟨k',x',e,ek⟩:=hacc.2 i u (by rw[<-Array.getElem?_toList];exact hu)
  have h1:(vs.map (·.1))[i]?=some k':=by rw[List.getElem?_map,e];rfl
  rw[kv_keys rel,List.getElem?_map]at h1
  rw[List.getElem?_map]at hx
  cases hq:kvs[i]? with
  |none=>rw[hq]at hx;cases hx
  |some kv=>
   rw[hq]at hx h1
   cases hx
   cases h1
   exact key_rel ek
 refine⟨.ref h'.objs.size,_,Inv.laid (s:={s with heap:=h',toks:=tk}) I1 (t':=tk) (o:= .tup (kvs.map fun kv=>kV kv.1)) (fun b o e=>Heap.get?_push_of_some _ e) (Nat.le_refl _) ?_,rfl,q _ _ (same_add (I1.hok.fresh (Nat.le_refl _))) upd_same⟩
 refine⟨by rw[List.length_map];exact leMil hn,acc.toList,hv,?_⟩
 have:=IsTup.new h' acc
 rw[Array.toArray_toList]
 exact this
end
end L2
namespace Tx
open PySem
theorem sext{z y:Str}(h:z.cps.toList=y.cps.toList):z=y:=by
 cases z;cases y
 simp only[Str.mk.injEq]
 exact Array.toList_inj.mp h
theorem app_cps(a b:Str):(a++b).cps.toList=a.cps.toList++b.cps.toList:=by
 show(a.cps++b.cps).toList=_
 simp
theorem join_one(s a:Str):Str.join s [a]=a:=rfl
theorem join_two(s a b:Str)(l:List Str):Str.join s (a::b::l)=a++s++Str.join s (b::l):=rfl
theorem len_app(a b:Str):(a++b).length=a.length+b.length:=by
 show(a.cps++b.cps).size=_
 simp[Str.length]
abbrev letters:Str:=Str.ofString "abcdefghijklmnopqrstuvwxyz"
abbrev figures:Str:=Str.ofString "0123456789"
def wordB(signs:Str)(most:Int)(z:Str):Bool:=decide (1<=(z.length:Int))&&(decide ((z.length:Int)<=most)&&z.cps.toList.all fun c=>decide (c∈signs.cps.toList))
def nameB(z:Str):Bool:=wordB letters 8 z
def zero:Str:=Str.ofString "0"
def hourB(z:Str):Bool:=wordB figures 3 z&&(decide (z=zero)|| !decide (z.cps.toList.head?=some 48))
def num(n:Int):Str:=Str.ofString (toString n)
theorem hour_all:∀n:Fin 1000,(hourB (num (n.val:Int))&&(num (n.val:Int)).cps.toList.all (fun c=>c !=32&&c !=10))=true:=by decide+kernel
theorem lett_all:∀c∈letters.cps.toList,(c !=32&&c !=10)=true:=by decide+kernel
end Tx
namespace RX
open PySem PySem.Spec PyProof.Rows
def TrD(h base:Heap)(e:Addr)(cls:Value)(od:Option Addr)(fl:Value):Prop:=
 ∃oe vs T oT ts,h.get? e=some oe/\(oe.cls=cls/\oe.dict=od)/\oe.data= .fields vs/\vs[1]?=some (.ref T)/\base.get? T=none/\T≠e/\h.get? T=some oT/\oT.data= .fields ts/\ts[3]?=some fl
structure Fl(base:Heap)(l:List Env)(e:Addr)(cls:Value)(od:Option Addr)(fl:Value)(h:Heap):Prop where
 stays:base.StaysIn h
 new:base.get? e=none
 frames:h.FunFrames base l
 trace:TrD h base e cls od fl
theorem dict_mapFields(f)(o:Obj):(o.mapFields f).dict=o.dict:=by
 unfold Obj.mapFields
 split<;>rfl
section
variable{M:Model}{A:Around}{E:Value->Shared->Prop}{s:Shared}{base:Heap}{env:Env}{outer l:List Env}{L e:Addr}{cls fl:Value}{od:Option Addr}{Q:Unit->Shared->Prop}
theorem entry_at{oe}{vs}{head}{hadNext}
  (hfr:A.frames=some (env::outer))(hl:s.heap.FunFrames base (env::outer))(hf:env.frame=some L)
  (he:s.heap.get? e=some oe)(hkb:base.StaysIn s.heap)(hen:base.get? e=none)(hd:oe.data= .fields vs)(hsz:1<vs.size)
  (h:∀h',Fl base (env::outer) e oe.cls oe.dict (rawInt L) h'->s.heap.UpToSlots h'->Q () {s with heap:=h'}):
  wpAny M A (do let a<-frameOf env;let pl<-entryPlaceOf L hadNext;let b<-EntryCells.newEntry head a .none (rawInt L) .none pl;setField (.ref e) 1 b) Q E s:=by
 have out:e ∉ (env::outer).filterMap _:=fun hm=>by
  obtain⟨_,o,ho,d⟩:=hl.mem hm
  rw[he]at ho;injection ho with ho;subst ho;exact d vs hd
 refine wpAny_bind (wpAny_frameOf_fun hfr hl hf fun k j=>wpAny_bind (wpAny_entryPlaceOf fun pl hpl=>(wpAny_bind (wpAny_newObj_type ?_ (hpl.sizeOk5 _ _ _ _ _)))))
 have he₁:=(j.2.1 e out).trans he
 have n:base.StaysIn _:=fun b o g=>(j.2.1 b fun hm=>by rw[(hl.mem hm).1]at g;cases g).trans (hkb b o g)
 generalize hot:({cls:= .type _,dict:=none,data:= .fields _}:Obj)=ot
 have he₂:=Heap.get?_push_of_some ot he₁
 refine wpAny_setField he₂ hd hsz ?_
 have hTe:=Nat.ne_of_gt (Heap.lt_size he₁)
 have hd₃:=Obj.data_mapFields hd (·.setIfInBounds 1 (Value.ref k.objs.size))
 have i:∀b o,b≠e->k.get? b=some o->((k.push ot).update e (Obj.mapFields (·.setIfInBounds 1 (Value.ref k.objs.size)))).get? b=some o:=fun b o hbe l=>by
  rw[Heap.get?_update_other _ _ (Ne.symm hbe)]
  exact Heap.get?_push_of_some _ l
 have m:∀b o,s.heap.get? b=some o->(∀vs,o.data≠.fields vs)->b≠e:=fun b o l d q=>by
  grind
 refine h _ ⟨fun b o g=>i b o (fun q=>by grind) (n b o g),hen,hl.of_keeps fun b o l d=>?_,?_⟩ fun b o l d=>?_
 ·obtain⟨sl,hs⟩:=j.2.2 b o l
  exact⟨_,i b _ (m b o l d) hs,rfl⟩
 ·exact⟨_,_,k.objs.size,_,_,(Heap.get?_update_self (Obj.mapFields (·.setIfInBounds 1 (Value.ref k.objs.size))) he₂ (Obj.isFreed_of_fields hd₃)),⟨Obj.cls_mapFields _ _,dict_mapFields _ _⟩,hd₃,by simp[hsz],n.fresh,hTe,((Heap.get?_update_other (k.push ot) (Obj.mapFields (·.setIfInBounds 1 (Value.ref k.objs.size))) (Ne.symm hTe)).trans (Heap.get?_push_size k (show ot.isFreed=false by rw[<-hot];rfl))),(show ot.data= .fields ([head,.ref L,.none,rawInt L,.none]++(if pl.isEmpty then List.replicate 6 Value.none else pl)).toArray by rw[<-hot]),by rfl⟩
 ·obtain⟨sl,hs⟩:=j.2.2 b o l
  exact⟨sl,i b _ (m b o l d) hs⟩
theorem note_first{oe}{vs}(hfr:A.frames=some (env::outer))(hl:s.heap.FunFrames base (env::outer))(hf:env.frame=some L)
  (he:s.heap.get? e=some oe)(hkb:base.StaysIn s.heap)(hen:base.get? e=none)(hd:oe.data= .fields vs)(h1:vs[1]?=some .none)
  (h:∀h',Fl base (env::outer) e oe.cls oe.dict (rawInt L) h'->s.heap.UpToSlots h'->Q () {s with heap:=h'}):wpAny M A (noteFrame (.ref e) env) Q E s:=by
 unfold noteFrame
 simp[hf]
 exact wpAny_bind (wpAny_field he hd h1 (entry_at hfr hl hf he hkb hen hd (Array.getElem?_eq_some_iff.mp h1).1 h))
theorem note_on(hfr:A.frames=some (env::outer))(hf:env.frame=some L)(x:Fl base (env::outer) e cls od .none s.heap)
  (h:∀h',Fl base (env::outer) e cls od (rawInt L) h'->s.heap.UpToSlots h'->Q () {s with heap:=h'}):wpAny M A (noteFrame (.ref e) env) Q E s:=by
 obtain⟨hkb,hen,hl,oe,vs,T,oT,ts,he,⟨hc,hdd⟩,hd,h1,hnT,hTe,hT,hdT,h3⟩:=x
 subst hc hdd
 unfold noteFrame
 simp[hf]
 refine wpAny_bind (wpAny_field he hd h1 (wpAny_bind (wpAny_field hT hdT h3 ?_)))
 refine wpAny_bind (wpAny_setField hT hdT (Array.getElem?_eq_some_iff.mp h3).1 ?_)
 have a:∀b,b≠T->(s.heap.update T (Obj.mapFields (·.setIfInBounds 3 Value.none))).get? b=s.heap.get? b:=fun b hb=>Heap.get?_update_other _ _ (Ne.symm hb)
 have notT:∀b o,s.heap.get? b=some o->(∀vs,o.data≠.fields vs)->b≠T:=fun b o hb d q=>by
  simp_all
 refine entry_at hfr (hl.of_keeps fun b o hb d=>⟨o,(a b (notT b o hb d)).trans hb,rfl⟩) hf ((a e (Ne.symm hTe)).trans he)
  (fun b o hbo=>(a b fun q=>by grind).trans (hkb b o hbo)) hen hd (Array.getElem?_eq_some_iff.mp h1).1
  fun h' x1 x2=>h h' x1 fun b o hb d=>x2 b o ((a b (notT b o hb d)).trans hb) d
theorem flight_off(x:Fl base l e cls od fl s.heap)
  (h:∀h',Fl base l e cls od .none h'->s.heap.UpToSlots h'->Q () {s with heap:=h'}):wpAny M A (setFlight (.ref e) none) Q E s:=by
 obtain⟨hkb,hen,hl,oe,vs,T,oT,ts,he,hcd,hd,h1,hnT,m,hT,k,h3⟩:=x
 have g:=(Array.getElem?_eq_some_iff.mp h3).1
 have a:∀b,b≠T->(s.heap.update T (Obj.mapFields (·.setIfInBounds 3 (none.elim Value.none fun f=>rawInt f)))).get? b=s.heap.get? b:=
  fun b j=>Heap.get?_update_other _ _ (Ne.symm j)
 have i:∀b o,s.heap.get? b=some o->(∀vs,o.data≠.fields vs)->b≠T:=fun b o j d q=>by
  simp_all
 refine wpAny_bind (wpAny_field he hd h1 (wpAny_setField hT k g (h _ ⟨fun b o hbo=>(a b fun q=>by grind).trans (hkb b o hbo),hen,
  hl.of_keeps fun b o j d=>⟨o,(a b (i b o j d)).trans j,rfl⟩,?_⟩ fun b o j d=>⟨_,(a b (i b o j d)).trans j⟩)))
 exact⟨oe,vs,T,_,_,(a e (Ne.symm m)).trans he,hcd,hd,h1,hnT,m,Heap.get?_update_self _ hT (Obj.isFreed_of_fields (Obj.data_mapFields k _)),Obj.data_mapFields k _,by simp[g]⟩
theorem Fl.tail(x:Fl base (env::outer) e cls od fl s.heap):Fl base outer e cls od fl s.heap:=
 let⟨c,b,⟨_,_,d⟩,a⟩:=x
 ⟨c,b,d,a⟩
theorem leave_first{oe}{vs}(hfr:A.frames=some (env::outer))(hl:s.heap.FunFrames base (env::outer))(hf:env.frame=some L)
  (he:s.heap.get? e=some oe)(hkb:base.StaysIn s.heap)(hen:base.get? e=none)(hd:oe.data= .fields vs)(h1:vs[1]?=some .none)
  (h:∀h',Fl base outer e oe.cls oe.dict .none h'->s.heap.UpToSlots h'->Q () {s with heap:=h'}):wpAny M A (leaving env (.ref e)) Q E s:=by
 refine wpAny_bind (note_first hfr hl hf he hkb hen hd h1 fun _ c f=>flight_off c fun a b d=>h _ (Fl.tail (s:={s with heap:=a}) b) (f.trans d))
theorem leave_on(hfr:A.frames=some (env::outer))(hf:env.frame=some L)(x:Fl base (env::outer) e cls od .none s.heap)
  (h:∀h',Fl base outer e cls od .none h'->s.heap.UpToSlots h'->Q () {s with heap:=h'}):wpAny M A (leaving env (.ref e)) Q E s:=by
 refine wpAny_bind (note_on hfr hf x fun _ c f=>flight_off c fun a b d=>h _ (Fl.tail (s:={s with heap:=a}) b) (f.trans d))
end
end RX
namespace RX
open PySem PySem.Spec PyProof.Rows L2
def CXe(P:Program)(w:World):CXT:=fun outer H s E ev s'=>
 ∃e cls od H' B,ev= .ref e/\s'.os=s.os/\AllBare s'.gens/\Un (frs outer) [] H H' s.heap s'.heap/\HOk P w H' s'.heap/\Fl B outer e cls od .none s'.heap/\
  (∀b o,s.heap.get? b=some o->b ∉ frs outer->∃o',B.get? b=some o')/\(∀b u,H' b=some u->∃o,B.get? b=some o)/\E cls od H'
theorem same_of_stays{B h:Heap}{b:Addr}{o o':Obj}(k:B.StaysIn h)(e:B.get? b=some o')(q:h.get? b=some o):B.get? b=some o:=by
 have:=k b o' e
 rw[q]at this;cases this;exact e
theorem hok_stays{P:Program}{w:World}{H:Hp}{B h h':Heap}(x:HOk P w H h)(k:∀b u,H b=some u->∃o,B.get? b=some o) (s1:B.StaysIn h) (s2:B.StaysIn h'):HOk P w H h':=fun a u e=>by
 refine(x a u e).stay (fun b v hb q=>?_) (fun _ q=>q) fun _ _ q=>q
 have go:∀z,H b=some z->h'.get? b=some v:=fun z r=>by
  obtain⟨o,ho⟩:=k b z r
  exact s2 b v (same_of_stays s1 ho q)
 rcases hb with rfl|hb
 ·exact go u e
 ·exact go _ hb
section
variable{X:Cx}{pins:List (Addr×Obj)}{σ:L2.St}{H:Hp}{s s':Shared}{E E':XK}{ev:Value}{M:Model}{EE:Value->Shared->Prop}
theorem mem_stack(hst:X.stack=X.env::X.outer)(hf:X.env.frame=some X.env.locals){b:Addr}(h:b∈frs X.stack):b=X.env.locals\/b∈frs X.outer:=by
 rw[hst]at h
 unfold frs at h
 rw[List.filterMap_cons,hf]at h
 exact List.mem_cons.mp h
theorem mem_stack_of(hst:X.stack=X.env::X.outer){b:Addr}(h:b∈frs X.outer):b∈frs X.stack:=by
 rw[hst]
 unfold frs at h⊢
 rw[List.filterMap_cons]
 split
 ·exact h
 ·exact List.mem_cons_of_mem _ h
theorem pass_on(hst:X.stack=X.env::X.outer)(hf:X.env.frame=some X.env.locals)(hex:X.ex=[])(I:Inv X pins σ H s)(x:CXe X.prog X.w X.stack H s E ev s')
  (hE:∀c d H',E c d H'->E' c d H'):wpAny M X.A (leaving X.env ev) (fun _ s''=>CXe X.prog X.w X.outer X.H₀ X.s₀ E' ev s'') EE s':=by
 obtain⟨e,cls,od,H',B,rfl,os,bare,un,hok,fl,k1,k2,q⟩:=x
 have noA:∀b:Addr,b ∉ X.ex:=fun b z=>by rw[hex]at z;cases z
 have fl':Fl B (X.env::X.outer) e cls od .none s'.heap:=by rw[<-hst];exact fl
 refine leave_on (by rw[<-hst];exact I.ok.frames) hf fl' fun h' f u=>⟨e,cls,od,H',B,rfl,os.trans I.os,bare,?_,hok_stays hok k2 fl.stays f.stays,f,?_,k2,hE _ _ _ q⟩
 ·have nL:∀b o,X.s₀.heap.get? b=some o->b≠X.env.locals:=fun b o e=>Nat.ne_of_lt (Nat.lt_of_lt_of_le (Heap.lt_size e) I.ok.above)
  have out:∀b o,X.s₀.heap.get? b=some o->b ∉ frs X.outer->b ∉ frs X.stack:=fun b o e n z=>(mem_stack hst hf z).elim (nL b o e) n
  have slot:∀b o,X.s₀.heap.get? b=some o->X.H₀ b=none->b∈frs X.outer->∃sl,h'.get? b=some {o with slots:=sl}:=fun b o e n hb=>by
   obtain⟨sl,e1⟩:=I.base.slot b o e n hb (noA b)
   obtain⟨sl2,e2⟩:=un.slot b _ e1 (I.base.free b o e n (noA b)) (mem_stack_of hst hb) (by simp)
   obtain⟨_,o3,ho3,hnf⟩:=fl.frames.mem (mem_stack_of hst hb)
   rw[e2]at ho3;cases ho3
   obtain⟨sl3,e3⟩:=u b _ e2 hnf
   exact⟨sl3,e3⟩
  have keep:∀b o,X.s₀.heap.get? b=some o->X.H₀ b=none->b ∉ frs X.outer->h'.get? b=some o:=fun b o e n hb=>by
   have e1:=I.base.keep b o e n hb (noA b)
   have e2:=un.keep b o e1 (I.base.free b o e n (noA b)) (out b o e hb) (by simp)
   obtain⟨o',h3⟩:=k1 b o e1 (out b o e hb)
   exact f.stays b o (same_of_stays fl.stays h3 e2)
  refine⟨fun b o e n hb _=>keep b o e n hb,fun b o e n hb _=>slot b o e n hb,fun b o e n _=>?_,fun b o e _=>?_,fun b xs e=>un.tups b xs (I.base.tups b xs e),fun b o xs e=>un.frzs b o xs (I.base.frzs b o xs e),fun b ps e=>?_⟩
  ·obtain⟨o',e1⟩:=I.base.there b o e (noA b)
   exact un.free b o' e1 (I.base.free b o e n (noA b)) (by simp)
  ·by_cases hb:b∈frs X.outer
   ·obtain⟨sl,z⟩:=slot b o e (I.ok.frf b hb) hb
    exact⟨_,z⟩
   ·obtain⟨o',e1⟩:=I.base.there b o e (noA b)
    obtain⟨o2,h2⟩:=k1 b o' e1 (out b o e hb)
    exact⟨o2,f.stays b o2 h2⟩
  ·obtain⟨m1,e1⟩:=I.base.tbls b ps e
   obtain⟨m2,e2⟩:=un.tbls b _ e1
   exact⟨m1++m2,by rw[e2,Array.append_assoc]⟩
 ·intro b o e hb
  obtain⟨o',e1⟩:=I.base.there b o e (noA b)
  exact k1 b o' e1 fun z=>(mem_stack hst hf z).elim (Nat.ne_of_lt (Nat.lt_of_lt_of_le (Heap.lt_size e) I.ok.above)) hb
end
theorem passX{P:Program}{w:World}{K:PySem.W.Frag}{mg:Str->Option Value}{base:Heap}{N:List Str}{qual:Str}{scope:Scope}{f:Addr}{cd:Value}{A:Around}{outer:List Env}{s:Shared}{H:Hp}{E E':XK}
  (hE:∀c d H',E' c d H'->E c d H'):Passes (CXe P w) (cxOf (CXe P w) P w K mg base N qual scope f cd A outer s H E) E':=
 fun _ _ _ _ _ _ I x=>pass_on (X:=cxOf (CXe P w) P w K mg base N qual scope f cd A outer s H E) rfl rfl rfl I x hE
end RX
namespace RX
open PySem PySem.Spec PyProof.Rows L2 PySem.W
open Builtin Builtin.ObjectAttr
abbrev veMro:List Value:=[.type "ValueError",.type "Exception",.type "BaseException",.type "object"]
def strKey(e:DictEntry):Bool:=match e.key with| .str _ _=>true|_=>false
def xcIn(K:Frag)(C D:Addr):Bool:=match K.lookup C,K.lookup D with
 |some ⟨c,_,.cls cd,sl⟩,some ⟨_,_,.cls dd,_⟩=>c== .type "type"&&cd.mro== .ref C:: .ref D::veMro&& !cd.hasDel&&cd.hasDict&&sl.toList.length==6&&(sl.toList[4]?).join==some (.builtin "ValueError.__new__")&&
   (match K.lookup dd.ns with|some ⟨_,_,.dict es _,_⟩=>es.toList.all strKey&&(nsFind es "__init__").isNone|_=>false)
 |_,_=>false
theorem strKeys_of{es}(h:es.toList.all strKey=true):StrKeys es:=by
 intro e a
 have q:=List.all_eq_true.mp h e (by simpa using a)
 unfold strKey at q
 grind
def ClsAt(h:Heap)(C D:Addr):Prop:=OwnTail h veMro (.ref D::veMro)/\∃nm q N bs sn sub ab col dd k0 k1 k2 k3 k5,h.get? C=some (excClassObj nm q C N bs (.ref D::veMro) true sn sub ab col dd k0 k1 k2 k3 k5 "ValueError.__new__")
theorem clsAt_of{K}{h}{C D}(X:K.In h)(e:xcIn K C D=true):ClsAt h C D:=by
 unfold xcIn at e
 split at e
 ·rename_i c _ f s _ _ _ _ j n
  simp only[Bool.and_eq_true,Bool.not_eq_true',beq_iff_eq]at e
  obtain⟨⟨⟨⟨⟨⟨i,m⟩,q⟩,k⟩,p⟩,d⟩,a⟩:=e
  split at a
  ·rename_i _ _ r o _ t
   rw[Bool.and_eq_true]at a
   refine⟨.own (X _ _ n) ⟨_,r,o,X _ _ t,rfl,strKeys_of a.1,fun _=>rfl⟩ (by simpa using a.2) .base,?_⟩
   obtain⟨_,_,_,_,_,_,_,sub,_,_,_⟩:=f
   subst i m q k
   obtain⟨l⟩:=s
   match l,p,d with
   |[_,_,_,_,g,_],_,d=>
    have b:g=some (.builtin "ValueError.__new__"):=by simpa using d
    subst b
    exact⟨_,_,_,_,_,_,_,_,_,_,_,_,_,_,X _ _ j⟩
  ·cases a
 ·cases e
theorem ClsAt.keeps{h h':Heap}{C D:Addr}(x:ClsAt h C D)(k:∀b o,h.get? b=some o->h'.get? b=some o):ClsAt h' C D:=by
 obtain⟨T,nm,q,N,bs,sn,sub,ab,col,dd,k0,k1,k2,k3,k5,hC⟩:=x
 exact⟨T.keeps k,_,_,_,_,_,_,_,_,_,_,_,_,_,_,k _ _ hC⟩
section
variable{prog:Program}{w:World}{A:Around}{E:Value->Shared->Prop}{h:Heap}{g:Array GenState}{d:Drawn}{t:Nat}{os:OsState}{C D:Addr}
abbrev rawArgs(rest:List Value):Obj:={cls:= .type "tuple",data:= .seq rest.toArray}
abbrev rawF(t:Addr):Array Value:=#[.ref t,.none,.none,.none,.bool false,.none]
abbrev rawX(C t:Addr):Obj:={cls:= .ref C,data:= .fields (rawF t)}
theorem type_call_init{rest}{fI}{Q}(hc:ClsAt h C D)(hi:Looks (model prog w) h (typeLookup (.ref C) "__init__") (some (.ref fI)))
  (hb:∀self,Looks (model prog w) h (bindSpecial (.ref fI) self) (.ref fI,[self]))
  (hq:wpAny (model prog w) A (call (.ref fI) (.ref (h.objs.size+1)::rest)) (fun r s'=>r= .none/\Q (.done (.ret (.ref (h.objs.size+1)))) s') E
   ⟨(h.push (rawArgs rest)).push (rawX C h.objs.size),g,d,t,os⟩) (hrest:rest.length<=sizeLine):
  wpAny (model prog w) A (Builtin.«type.__call__» ⟨.ref C::rest,[]⟩) Q E ⟨h,g,d,t,os⟩:=by
 obtain⟨T,nm,q,N,bs,sn,sub,ab,col,dd,k0,k1,k2,k3,k5,a⟩:=hc
 have F:=PySem.F.excBase_ValueError
 repeat (first|with_reducible refine wpAny_loadPart_at a ?_|with_reducible refine wpAny_madeBy_exc a ?_|wp_step)
 refine codeAny_call_builtin_code (Code.quiet_builtin _ F.quiet) (wpAny_check_new_subT F T a (codeAny_exc_new_subT F T a ?_ hrest))
 have k:∀b o,h.get? b=some o->((h.push (rawArgs rest)).push (rawX C h.objs.size)).get? b=some o:=fun b o e=>Heap.get?_push_of_some _ (Heap.get?_push_of_some _ e)
 repeat (first|with_reducible refine wpAny_loadPart_at hget ?_|(with_reducible refine wpAny_isSubtype_exc (Heap.get?_push_of_some {cls:= .ref C,data:= .fields #[.ref h.objs.size,.none,.none,.none,.bool false,.none]} (Heap.get?_push_of_some {cls:= .type "tuple",data:= .seq rest.toArray} a)) ?_)|wp_step)
 refine(hi.keeps k).here (s:=⟨(h.push (rawArgs rest)).push (rawX C h.objs.size),g,d,t,os⟩) (wpAny_holding (wpAny_bind (((hb (.ref (h.objs.size+1))).keeps k).here (s:=⟨(h.push (rawArgs rest)).push (rawX C h.objs.size),g,d,t,os⟩) (wpAny_bind (wpAny_mono hq (fun r s' hr=>?_) fun _ _ x=>x)))))
 obtain⟨rfl,hQ⟩:=hr
 wp_walk
 exact hQ
theorem call_exc_init{rest}{fI}{Q}(hc:ClsAt h C D)(hi:Looks (model prog w) h (typeLookup (.ref C) "__init__") (some (.ref fI)))
  (hb:∀self,Looks (model prog w) h (bindSpecial (.ref fI) self) (.ref fI,[self]))
  (hq:wpAny (model prog w) (A.under (.builtin "type.__call__" ⟨.ref C::rest,[]⟩)) (call (.ref fI) (.ref (h.objs.size+1)::rest)) (fun r s'=>r= .none/\Q (.ref (h.objs.size+1)) s') E
   ⟨(h.push (rawArgs rest)).push (rawX C h.objs.size),g,d,t,os⟩) (hrest:rest.length<=sizeLine):
  wpAny (model prog w) A (call (.ref C) rest) Q E ⟨h,g,d,t,os⟩:=by
 obtain⟨T,_,q,N,_,_,sub,_,_,_,_,_,_,_,_,a⟩:=id hc
 have _:=tc_lookup
 have _:=tc_bind (.ref C)
 refine wpAny_call (codeAny_of_tree ?_)
 repeat (any_goals (first|assumption|with_reducible refine wpAny_loadPart_at a ?_|wp_step))
 exact⟨rfl,codeAny_call_builtin_at (Code.quiet_builtin _ (by decide+kernel)) entry_typeCall (wpAny_check_type_call_sub a (type_call_init hc hi hb hq hrest))⟩
theorem call_exc_plain{rest}{Q}(hc:ClsAt h C D)(hN:∃mN,(∀nm q N bs sn sub ab col dd k0 k1 k2 k3 k5,h.get? C=some (excClassObj nm q C N bs (.ref D::veMro) true sn sub ab col dd k0 k1 k2 k3 k5 "ValueError.__new__")->h.Ns N mN)/\mN "__init__"=none)
  (hq:∀h' e,Heap.MadeExcOf h h' e (.ref C) rest->Q (.ref e) ⟨h',g,d,t,os⟩) (hrest:rest.length<=sizeLine):wpAny (model prog w) A (call (.ref C) rest) Q E ⟨h,g,d,t,os⟩:=by
 obtain⟨T,nm,q,N,bs,sn,sub,ab,col,dd,k0,k1,k2,k3,k5,b⟩:=hc
 obtain⟨mN,c,a⟩:=hN
 exact wpAny_call_exc_subT PySem.F.excBase_ValueError T b (c _ _ _ _ _ _ _ _ _ _ _ _ _ _ b) a hq hrest
end
section
variable{prog:Program}{w:World}{A:Around}{E:Value->Shared->Prop}{K:Frag}{C D x:Addr}{s:Shared}
theorem store_x{vs}{name}{v}{Q}(X:K.In s.heap)(hc:xcIn K C D=true)(hs:findIn K (.ref C) "__setattr__"=some (some (.builtin "object.__setattr__")))(ha:findIn K (.ref C) name=some none)
  (hx:s.heap.get? x=some ⟨.ref C,none,.fields vs,#[]⟩)
  (hq:∀h' tk,h'.get? x=some ⟨.ref C,some s.heap.objs.size,.fields vs,#[]⟩->h'.Ns1 s.heap.objs.size (fun y=>if y=name then some v else none)->(∀b o,b≠x->s.heap.get? b=some o->h'.get? b=some o)->Q () {s with heap:=h',toks:=tk}):
  wpAny (model prog w) A (setAttr (.ref x) name v) Q E s:=by
 have n:=PySem.F.store_ValueError
 have I:InstAt _ x _ C none:=⟨hx,rfl,rfl,trivial⟩
 refine set_plain X I hs ?_
 obtain⟨T,nm,q,N,bs,sn,sub,ab,col,dd,k0,k1,k2,k3,k5,hC⟩:=clsAt_of X hc
 obtain⟨h,g,d,t,os⟩:=s
 have hm:Looks (model prog w) h (mroOf (.ref C)) _:=((Looks.ld hC).andThen .now).andThen .now
 have z:Looks _ h (isInstance (.ref x) (.type "object")) _:=I.type.andThen (by
  unfold isSubtype
  exact hm.andThen .now)
 refine codeAny_call_builtin n.slot.plain n.entry (@check_slot (model prog w) _ _ ⟨h,g,d,t+1,os⟩ "object.__setattr__" "object" "__setattr__" (.ref x) [.str name t,v] [] _ n.kind n.split z (n.args (.ref x) (.str name t) v) ?_)
 rw[osa_eq,refuse_eq]
 refine wpAny_bind (wpAny_bind (I.type.here (s:=⟨h,g,d,t+1,os⟩) (wpAny_bind (hm.here (s:=⟨h,g,d,t+1,os⟩) ?_))))
 rw[refuseLoop_ref,refuseLoop_ref,n.passes]
 refine wpAny_pure (wpAny_bind (I.type.here (s:=⟨h,g,d,t+1,os⟩) (wpAny_bind ((looks_findIn X ha).here (s:=⟨h,g,d,t+1,os⟩) (wpAny_bind (wpAny_pure ?_))))))
 have G:(h.push {cls:= .type "dict",data:= .dict #[]}).get? x=some ⟨.ref C,none,.fields vs,#[]⟩:=Heap.get?_push_of_some _ hx
 have p:=Nat.ne_of_lt (Heap.lt_size hx)
 refine wpAny_bind (wpAny_pure (wpAny_bind (wpAny_bind (wpAny_loadPart hx (wpAny_bind (wpAny_bind (wpAny_load hC (wpAny_pure (wpAny_bind (wpAny_alloc' (wpAny_bind (wpAny_update' G (wpAny_pure ?_)))))))))))))
 have hnd:((h.push {cls:= .type "dict",data:= .dict #[]}).update x fun o=>{cls:=o.cls,dict:=some h.objs.size,data:=o.data,slots:=o.slots}).Ns h.objs.size (fun _=>none):=
  ⟨_,#[],_,(show((h.push {cls:= .type "dict",data:= .dict #[]}).update x fun o=>{cls:=o.cls,dict:=some h.objs.size,data:=o.data,slots:=o.slots}).get? h.objs.size
   =some {cls:= .type "dict",data:= .dict #[]}from(Heap.get?_update_ne _ _ _ _ p.symm).trans (Heap.get?_push_at rfl rfl)),rfl,fun e he=>absurd he (by simp),fun _=>rfl⟩
 refine wpAny_bind (wpAny_pure (wpAny_bind (wpAny_nsSet1 (Heap.Ns1.of_empty hnd) fun h' u hs=>?_)))
 obtain⟨oD,esD,epD,hoD,hdD,hcD⟩:=u.count (PySem.Within.cons name v PySem.Within.nil)
 refine wpAny_bind (wpAny_lookBehind hoD (by rw[hdD];exact pastItsLine_dict (Nat.le_trans hcD (by simp_all))) (wpAny_pure (hq h' _ ?_ u fun b o hb e=>?_)))
 ·exact(hs.2 x p).trans (Heap.get?_update_self _ G rfl)
 ·exact(hs.2 b (Nat.ne_of_lt (Heap.lt_size e))).trans ((Heap.get?_update_ne _ _ _ _ hb).trans (Heap.get?_push_of_some _ e))
end
end RX
namespace RX
open PySem PySem.Spec PyProof.Rows L2 PySem.W
def XV(C:Addr)(od:Option Addr)(fv:Array Value)(e:Addr):HO:= .ext fun h=>h.get? e=some ⟨.ref C,od,.fields fv,#[]⟩
theorem XV.ok{P}{w}{H}{h}{C e}{od}{fv}(x:h.get? e=some ⟨.ref C,od,.fields fv,#[]⟩):ObjOk P w H h e (XV C od fv e):=
 ⟨x,⟨_,x⟩,fun _ _ p k=>k _ p⟩
theorem XV.get{P}{w}{H}{h}{C e}{od}{fv}(x:HOk P w H h)(q:H e=some (XV C od fv e)):h.get? e=some ⟨.ref C,od,.fields fv,#[]⟩:=(x e _ q).1
structure XCl(K:Frag)(C D:Addr):Prop where
 cls:xcIn K C D=true
 sa:findIn K (.ref C) "__setattr__"=some (some (.builtin "object.__setattr__"))
 kp:keepIn K (.ref C)=true
def sFldX(K:Frag)(ta tv:TE)(f:Str):TS:=fun D σ H=>tv σ H fun y H1=>ta σ H1 fun x H2=>∃e C Dd fv,x= .ref e/\H2 e=some (XV C none fv e)/\XCl K C Dd/\findIn K (.ref C) f=some none/\
 ∀dx,H2 dx=none->dx≠e->D.nx σ (upd (upd H2 dx (.xd [(f,y)])) e (XV C (some dx) fv e))
section
variable{X:Cx}{o value:Expr}{f:Str}{pos pos':Pos}{ta tv:TE}
theorem ps_fldX(ha:PE X o ta)(hv:PE X value tv)(hs:swapsWith value (some (.Attribute o f pos')) pos.line X.env=pure false):PS X (.Assign [.Attribute o f pos'] value pos) (sFldX X.K ta tv f):=by
 refine fun k s σ H D I h=>plainObj_wpAny_Assign_Attribute (thn (hv k s σ H _ I h) fun u s1⟨y,H1,I1,ry,q⟩=>thn (ha k s1 σ H1 _ I1 q) fun ov l xq1=>?_) hs
 obtain⟨x,p,I2,rx,e,C,Dd,fv,ex,ea,c,n,q2⟩:=xq1
 subst ex
 obtain rfl:ov=Value.ref e:=rx
 have hx:=XV.get I2.hok ea
 have hn:=I2.hok.fresh (Nat.le_refl _)
 refine store_x I2.kIn c.cls c.sa n hx fun h' tk g1 g2 g3=>?_
 have i:∀b v,p b=some v->(∀φ,v≠.ext φ)->b≠e:=fun b v r nv z=>by rw[z,ea]at r;exact nv _ (Option.some.inj r).symm
 have d:∀b v,p b=some v->b≠l.heap.objs.size:=fun b v r z=>by rw[z,hn]at r;cases r
 have m:∀b,p b=none->b≠e:=fun b r z=>by rw[z,ea]at r;cases r
 have a:∀b,b≠e->b≠l.heap.objs.size->upd (upd p l.heap.objs.size (.xd [(f,y)])) e (XV C (some l.heap.objs.size) fv e) b=p b:=fun b h1 h2=>by rw[upd_ne h1,upd_ne h2]
 refine⟨σ,_,I2.un (H':=upd (upd p l.heap.objs.size (.xd [(f,y)])) e (XV C (some l.heap.objs.size) fv e)) (h':=h') (t':=tk) ⟨?_,?_,?_,?_,?_,?_,?_⟩ fun b v r=>?_,q2 _ hn (Nat.ne_of_gt (Heap.lt_size hx))⟩
 ·exact fun b j r n _ _=>g3 b j (m b n) r
 ·exact fun b j r n _ _=>⟨j.slots,g3 b j (m b n) r⟩
 ·exact fun b j r n _=>by rw[a b (m b n) (Nat.ne_of_lt (Heap.lt_size r))];exact n
 ·grind
 ·exact fun b xs r=>by rw[a b (i b _ r fun _=>by simp) (d b _ r)];exact r
 ·exact fun b j xs r=>by rw[a b (i b _ r fun _=>by simp) (d b _ r)];exact r
 ·exact fun b ps r=>⟨#[],by rw[a b (i b _ r fun _=>by simp) (d b _ r),r];simp⟩
 ·by_cases z:b=e
  ·subst z;rw[upd_same]at r;cases r;exact XV.ok g1
  ·by_cases z2:b=l.heap.objs.size
   ·subst z2
    rw[upd_ne z,upd_same]at r;cases r
    refine⟨_,g2,fun g=>?_⟩
    by_cases w:g=f
    ·subst w
     rw[if_pos rfl,List.lookup_cons_self];exact ry
    ·rw[if_neg w,show List.lookup g [(f,y)]=none from by unfold List.lookup;rw[beq_eq_false_iff_ne.mpr w];rfl];trivial
   ·rw[a b z z2]at r
    refine(I2.hok b v r).stay (fun c j hc q=>g3 c j ?_ q) (fun c q=>?_) fun c xs q=>?_
    ·grind
    ·rw[a c (i c _ q fun _=>by simp) (d c _ q)];exact q
    ·rw[a c (i c _ q fun _=>by simp) (d c _ q)];exact q
end
section
variable{M:Model}{A:Around}{E:Value->Shared->Prop}{s:Shared}{env:Env}{C D:Addr}{Q:Flow->Shared->Prop}
theorem raise_made{x}(hh:A.handled=none)
  (h:wpAny M A x (fun v s₁=>∃e t od,v= .ref e/\ClsAt s₁.heap C D/\s₁.heap.get? e=some {cls:= .ref C,dict:=od,data:= .fields #[.ref t,.none,.none,.none,.bool false,.none]}/\E (.ref e) s₁) E s):wpAny M A (raiseStmt env (some x) none) Q E s:=by
 refine wpAny_bind (wpAny_mono h (fun v s₁ b=>?_) fun _ _ x=>x)
 obtain⟨e,t,od,rfl,⟨T,_,q,N,_,_,sub,_,_,_,_,_,_,_,_,a⟩,c,f⟩:=b
 obtain⟨_,g,d,_,os⟩:=s₁
 repeat (first|with_reducible refine wpAny_loadPart_at c ?_|with_reducible refine wpAny_loadPart_at a ?_|(with_reducible refine wpAny_isSubtype_exc a ?_)|wp_step)
 exact wpAny_raiseNew_none hh f
theorem exec_raise{prog}{w}{ex}{pos}(hh:A.handled=none)
  (h:wpAny (model prog w) A (eval ex env) (fun v s₁=>∃e t od,v= .ref e/\ClsAt s₁.heap C D/\s₁.heap.get? e=some {cls:= .ref C,dict:=od,data:= .fields #[.ref t,.none,.none,.none,.bool false,.none]}/\E (.ref e) s₁) E s):
  wpAny (model prog w) A (exec (.Raise (some ex) none pos) env) Q E s:=by
 first
  |exact wpAny_bind (wpAny_standAt (raise_made hh (wpAny_bind (wpAny_mono h (fun v _ a=>wpAny_bind (wpAny_standAt (wpAny_pure a))) fun _ _ x=>x))))
  |omega
end
theorem objAt{P}{w}{H}{h}{a}{o}(x:ObjOk P w H h a o):∃u,h.get? a=some u:=by
 cases o with
 |lst d=>obtain⟨_,_,_,_,e⟩:=x;exact⟨_,e⟩
 |tup d=>obtain⟨_,_,_,o,e,_⟩:=x;exact⟨_,e⟩
 |dK b=>obtain⟨_,_,_,_,o,_,_,e,_⟩:=x;exact⟨_,e⟩
 |dT b=>obtain⟨_,_,_,_,o,_,_,e,_⟩:=x;exact⟨_,e⟩
 |set S n=>obtain⟨o,_,_,_,e,_⟩:=x;exact⟨_,e⟩
 |ins C _ c=>obtain⟨_,_,_,e,_⟩:=x;exact⟨_,e⟩
 |own y=>exact x
 |xd c=>obtain⟨_,⟨_,_,_,e,_⟩,_⟩:=x;exact⟨_,e⟩
 |rng lo _=>obtain⟨_,_,_,e⟩:=x;exact⟨_,e⟩
 |frz _ u=>obtain⟨e,_⟩:=x;exact⟨_,e⟩
 |tbl _=>exact⟨_,x⟩
 |met f y=>exact⟨_,x⟩
 |_ φ=>obtain⟨_,e,_⟩:=x;exact e
def untr(H:Hp)(e:Addr):Hp:=fun b=>if b=e then none else H b
theorem untr_ne{H}{e b}(h:b≠e):untr H e b=H b:=by unfold untr;rw[if_neg h]
theorem untr_same{H}{e}:untr H e e=none:=by unfold untr;rw[if_pos rfl]
section
variable{X:Cx}{pins:List (Addr×Obj)}{σ:L2.St}{H:Hp}{s:Shared}
theorem inv_untr{e:Addr}(I:L2.Inv X pins σ H s){φ:Heap->Prop}(he:H e=some (.ext φ)):L2.Inv X pins σ (untr H e) s:=by
 have a:∀b,H b=none->untr H e b=none:=fun b q=>by unfold untr;simp_all
 have f:∀b v,H b=some v->(∀φ,v≠.ext φ)->b≠e:=fun b v r _ z=>by grind
 refine⟨I.ok,I.os,I.bare,⟨I.base.keep,I.base.slot,fun b o q n j=>a b (I.base.free b o q n j),I.base.there,fun b g q=>?_,fun b o g q=>?_,fun b i q=>?_⟩,I.loc,I.cell,a _ I.free,fun x c q=>a _ (I.freeC x c q),fun p h=>?_,fun b u q=>?_,I.len⟩
 ·have r:=I.base.tups b g q
  rw[untr_ne (f b _ r fun _=>by simp)];exact r
 ·have r:=I.base.frzs b o g q
  rw[untr_ne (f b _ r fun _=>by simp)];exact r
 ·obtain⟨m,r⟩:=I.base.tbls b i q
  exact⟨m,by rw[untr_ne (f b _ r fun _=>by simp)];exact r⟩
 ·obtain⟨_,n,r⟩:=I.pin p h
  simp_all
 ·rw[untr_ne (show b≠e from fun z=>by rw[z,untr_same]at q;cases q)]at q
  refine(I.hok b u q).stay (fun _ _ _ z=>z) (fun c z=>?_) fun c g z=>?_
  ·rw[untr_ne (f c _ z fun _=>by simp)];exact z
  ·rw[untr_ne (f c _ z fun _=>by simp)];exact z
theorem un_leave{outer:List _}{H₀ H':Hp}{h₀ h h' B:Heap}(un:Un (frs outer) [] H₀ H' h₀ h)(s1:B.StaysIn h)(s2:B.StaysIn h')(k1:∀b o,h₀.get? b=some o->b ∉ frs outer->∃o',B.get? b=some o')
  (frf:∀b∈frs outer,H₀ b=none) (nf:∀b∈frs outer,∀o,h.get? b=some o->∀vs,o.data≠.fields vs) (u:h.UpToSlots h'):Un (frs outer) [] H₀ H' h₀ h':=by
 have c:∀b o,h₀.get? b=some o->H₀ b=none->b∈frs _->∃f,h'.get? b=some {o with slots:=f}:=fun b o e n a=>by
  obtain⟨f,g⟩:=un.slot b o e n a (by simp)
  obtain⟨_,i⟩:=u b _ g (nf b a _ g)
  exact⟨_,i⟩
 refine⟨fun b o e n a _=>?_,fun b o e n a _=>c b o e n a,un.free,fun b o e _=>?_,un.tups,un.frzs,un.tbls⟩
 ·obtain⟨o',d⟩:=k1 b o e a
  exact s2 b o (same_of_stays s1 d (un.keep b o e n a (by simp)))
 ·by_cases a:b∈frs outer
  ·grind
  ·obtain⟨o',d⟩:=k1 b o e a
   exact⟨o',s2 b o' d⟩
theorem raise_leaves{M}{EE:Value->Shared->Prop}{E:XK}{e C t}{od:Option _}(hst:X.stack=X.env::X.outer)(hf:X.env.frame=some X.env.locals)(hex:X.ex=[])(I:L2.Inv X pins σ H s)
  (hn:X.s₀.heap.get? e=none)(he:s.heap.get? e=some {cls:= .ref C,dict:=od,data:= .fields #[.ref t,.none,.none,.none,.bool false,.none]})(hu:H e=none)(q:E (.ref C) od H):
  wpAny M X.A (leaving X.env (.ref e)) (fun _ s''=>CXe X.prog X.w X.outer X.H₀ X.s₀ E (.ref e) s'') EE s:=by
 have d:∀b:Addr,b ∉ X.ex:=fun b z=>by grind
 have st:(hideAll s.heap (e::frs X.stack)).StaysIn _:=fun b o q=>of_hideAll _ q
 have m:s.heap.FunFrames (hideAll s.heap (e::frs X.stack)) (X.env::X.outer):=by
  have:=I.stack
  rw[hst]at this
  exact funFrames_hide this fun h he a r=>List.mem_cons_of_mem _ (by rw[hst];exact List.mem_filterMap.mpr ⟨h,he,r⟩)
 have n:∀b o,X.s₀.heap.get? b=some o->b ∉ frs _->∃g,(hideAll s.heap (e::frs X.stack)).get? b=some g:=fun b o q j=>by
  obtain⟨g,v⟩:=I.base.there b o q (d b)
  refine⟨g,hideAll_get _ v fun i=>?_⟩
  rcases List.mem_cons.mp i with z|z
  ·grind
  ·exact(mem_stack hst hf z).elim (Nat.ne_of_lt (Nat.lt_of_lt_of_le (Heap.lt_size q) I.ok.above)) j
 have p:∀b u,H b=some u->∃o,(hideAll s.heap (e::frs X.stack)).get? b=some o:=fun b u q=>by
  obtain⟨o,l⟩:=objAt (I.hok b u q)
  refine⟨o,hideAll_get _ l fun i=>?_⟩
  rcases List.mem_cons.mp i with z|z
  ·simp_all
  ·rw[I.stkFree b z]at q;cases q
 refine leave_first (base:=hideAll s.heap (e::frs X.stack)) (by rw[<-hst];exact I.ok.frames) m hf he st (hideAll_none _ List.mem_cons_self) rfl rfl fun _ k u=>⟨e,.ref C,od,H,_,rfl,I.os,I.bare,un_leave (show Un (frs X.outer) [] X.H₀ H X.s₀.heap s.heap from I.base.mono (fun _ z=>z) fun b z=>absurd z (d b)) st k.stays n I.ok.frf (fun b j o l=>?_) u,hok_stays I.hok p st k.stays,k,n,p,q⟩
 obtain⟨_,g,_,_⟩:=m.mem (by have:=mem_stack_of hst j;rw[hst]at this;exact this)
 simp_all
end
inductive spInit(C:Addr)(f:Str)(vs:List V)(H:Hp)(Q:VK)(_z3:XK):Prop
 |mk (e fv y:_) (_:vs=[.ref e,y]) (_:H e=some (XV C none fv e)) (_:∀dx,H dx=none->dx≠e->Q .non (upd (upd H dx (.xd [(f,y)])) e (XV C (some dx) fv e)))
def sRaiseF(C:Addr)(f:Str)(E:XK)(t:TA):TS:=fun _ σ H=>t σ H fun vs H1=>∃y,vs=[y]/\∀dx,H1 dx=none->E (.ref C) (some dx) (upd H1 dx (.xd [(f,y)]))
section
variable{X:Cx}{k:Nat}{C D fI:Addr}{fd:FuncData}{ps:List Str}{E:XK}{x f:Str}{np pos cpos:Pos}{arg:Expr}{t:TA}
theorem ps_raiseF(c:XCl X.K C D)(hi:findIn X.K (.ref C) "__init__"=some (some (.ref fI)))(hfn:isFn X.K (.ref fI)=true)
  (F:FnOk X.prog X.w X.K X.mg X.base CX0 k fI fd ps (spInit C f))(hr:Room (k+1) X.A)(hb:L2.Binds X.K fd ps [])(hg:Gl X x)(hm:X.mg x=some (.ref C))(ha:PA X [arg] t)
  (hst:X.stack=X.env::X.outer)(hf:X.env.frame=some X.env.locals)(hex:X.ex=[])
  (hxe:∀e s',wpAny (model X.prog X.w) X.A (leaving X.env e) (fun _ s''=>CXe X.prog X.w X.outer X.H₀ X.s₀ E e s'') (fun e' s''=>CXe X.prog X.w X.outer X.H₀ X.s₀ E e' s'') s'->X.xe e s')
  (hdb:(x==("__debug__":Str))=false:=by decide) (he:starEach [arg] X.env=(false,eval arg X.env)::starEach [] X.env:=by rfl):
  PS X (.Raise (some (.Call (.Name x np) [arg] [] cpos)) none pos) (sRaiseF C f E t):=by
 refine fun pins s σ H Dn I h=>exec_raise (C:=C) (D:=D) hr.hd (wpAny_Call_Name_kw (ld_glob I hg hm (PySem.W.callWith_K (h₀:=X.base) I.ok.mod.kin c.kp (thn (ha cpos pins s σ H _ I h) fun us d⟨vs,H1,I1,r,y,ev,q⟩=>⟨I1.kIn,?_⟩) he rfl) hdb))
 subst ev
 have kin:=I1.kIn
 have e1:((d.heap.push (rawArgs us)).push (rawX C d.heap.objs.size)).get? (d.heap.objs.size+1)=some (rawX C d.heap.objs.size):=by
  have:=Heap.get?_push_size (d.heap.push (rawArgs us)) (o:=rawX C d.heap.objs.size) rfl
  rwa [Heap.size_push]at this
 have I2:=(I1.kept (h':=d.heap.push (rawArgs us)) (t':=d.toks) fun b u q=>Heap.get?_push_of_some _ q).laid (a:=d.heap.objs.size+1) (o:=XV C none (rawF d.heap.objs.size) (d.heap.objs.size+1)) (h':=(d.heap.push (rawArgs us)).push (rawX C d.heap.objs.size)) (t':=d.toks)
  (fun b u q=>Heap.get?_push_of_some _ q) (Nat.le_of_eq (Heap.size_push _ _)) (XV.ok e1)
 have r2:Vals [V.ref (d.heap.objs.size+1),y] (Value.ref (d.heap.objs.size+1)::us):= .cons rfl r
 have hsp:spInit C f [V.ref (d.heap.objs.size+1),y] (upd H1 (d.heap.objs.size+1) (XV C none (rawF d.heap.objs.size) (d.heap.objs.size+1))) (fun v H'=>v= .non/\∃g,H1 g=none/\g≠d.heap.objs.size+1/\
   H'=upd (upd (upd H1 (d.heap.objs.size+1) (XV C none (rawF d.heap.objs.size) (d.heap.objs.size+1))) g (.xd [(f,y)])) (d.heap.objs.size+1) (XV C (some g) (rawF d.heap.objs.size) (d.heap.objs.size+1))) E0:=
  ⟨_,_,y,rfl,upd_same,fun g h1 h2=>⟨rfl,g,by rwa [upd_ne h2]at h1,h2,rfl⟩⟩
 have hl:((Value.ref (d.heap.objs.size+1)::us)++[]).length=ps.length:=by
  rw[List.append_nil,<-r2.length];exact F.len _ _ _ _ hsp
 have bd:=hb {d with heap:=(d.heap.push (rawArgs us)).push (rawX C d.heap.objs.size)} (Value.ref (d.heap.objs.size+1)::us) I2.kIn hl
 rw[List.append_nil]at bd
 refine call_exc_init (D:=D) (clsAt_of kin c.cls) (looks_findIn kin hi) (fun self=>bind_fn kin self (beq_iff_eq.mp hfn)) (wpAny_call (codeAny_mono (F.run _ X.stack _ _ ⟨Value.ref (d.heap.objs.size+1)::us,[]⟩ _ _ _ E0 (hr.make C us [])
  (I2.env0.make C us []) bd r2 hsp) fun rr s' hq=>?_)) (by rw[List.nil_append,(show us.length=1 from r.length.symm),sizeLine_eq];simp)
 cases rr with
 |error e=>exact False.elim hq
 |ok fl=>
  cases fl with
  |ret u=>
   obtain⟨v,H',I3,rv,ev,g,g1,g2,g3⟩:=I2.after hq
   subst ev g3
   obtain rfl:u=Value.none:=rv
   have he:=XV.get (e:=d.heap.objs.size+1) I3.hok upd_same
   refine⟨rfl,d.heap.objs.size+1,d.heap.objs.size,some g,rfl,clsAt_of I3.kIn c.cls,he,hxe _ _ (raise_leaves hst hf hex (inv_untr (e:=d.heap.objs.size+1) I3 upd_same) (Heap.get?_none_of_le (Nat.le_succ_of_le I1.sz)) he untr_same ?_)⟩
   have e4:untr (upd (upd (upd H1 (d.heap.objs.size+1) (XV C none (rawF d.heap.objs.size) (d.heap.objs.size+1))) g (.xd [(f,y)])) (d.heap.objs.size+1) (XV C (some g) (rawF d.heap.objs.size) (d.heap.objs.size+1))) (d.heap.objs.size+1)
     =upd H1 g (.xd [(f,y)]):=by
    funext b
    by_cases z:b=d.heap.objs.size+1
    ·rw[z,untr_same,upd_ne (Ne.symm g2),(I1.hok.fresh (Nat.le_succ _))]
    ·rw[untr_ne z,upd_ne z]
     by_cases z2:b=g
     ·rw[z2,upd_same,upd_same]
     ·rw[upd_ne z2,upd_ne z2,upd_ne z]
   rw[e4]
   exact q g g1
  |next=>exact False.elim hq
  |brk=>exact False.elim hq
  |cont=>exact False.elim hq
end
end RX
namespace RX
open PySem PySem.Spec PyProof.Rows L2 PySem.W
open Builtin Builtin.ObjectAttr
structure XGet(K:Frag)(C:Addr):Prop where
 ga:findIn K (.ref C) "__getattribute__"=some (some (.builtin "BaseException.__getattribute__"))
 gh:findIn K (.ref C) "__getattr__"=some none
 hd:hasDictIn K C=true
 be:mroIn K C (.type "BaseException")=some true
 ob:mroIn K C (.type "object")=some true
 cl:findIn K (.ref C) "__class__"=some (some (.builtin "object.__class__"))
 cg:specialIn K (.builtin "object.__class__") "__get__"=some (some (.builtin "getset_descriptor.__get__"))
 ct:takesIn K (.builtin "object.__class__")=some true
theorem bga_kind:builtinKind "BaseException.__getattribute__"=some .slot:=by decide+kernel
theorem bga_split:splitId "BaseException.__getattribute__"=some ("BaseException","__getattribute__"):=by decide+kernel
section
variable{prog:Program}{w:World}{A:Around}{E:Value->Shared->Prop}{s:Shared}{K:Frag}{x C:Addr}{ox:Obj}{od:Option Obj}{name:Str}{tk:Tok}{fill expr:Bool}{Q:Value->Shared->Prop}
theorem getBy_x(X:K.In s.heap)(I:InstAt s.heap x ox C od)(g:XGet K C)
  (h:wpAny (model prog w) A.in1 (Builtin.«object.__getattribute__» ⟨[.ref x,.str name tk],[]⟩) (fun fin s'=>match fin with| .done (.ret v)=>wpAny (model prog w) A (handedOut v) Q E s'|_=>False)
   (fun _ _=>False) s):wpAny (model prog w) A (getAttrBy (.ref x) (.str name tk) fill expr) Q E s:=by
 obtain⟨hh,gg,d,t,os⟩:=s
 have L0:=I.type (M:=model prog w)
 have L1:=looks_findIn (M:=model prog w) X g.ga
 have L2:=looks_findIn (M:=model prog w) X g.gh
 have L3:Looks (model prog w) hh (isInstance (.ref x) (.type "BaseException")) true:=L0.andThen (looks_mroIn X g.be)
 have f3:=PySem.F.excAttr_ValueError.ga.bind (.ref x)
 have hx0:(expr&&onTheHeap (Value.builtin "BaseException.__getattribute__"))=false:=by cases expr<;>rfl
 have hx2:(Value.builtin "BaseException.__getattribute__"==Value.builtin "object.__getattribute__")=false:=by decide+kernel
 have hx1:(onTheHeap (Value.ref C)&&Value.builtin "BaseException.__getattribute__"==Value.builtin "object.__getattribute__")=false:=by rw[hx2];rfl
 unfold getAttrBy
 refine wpAny_holding (wpAny_bind (L0.here (s:=⟨hh,gg,d,t,os⟩) (wpAny_bind (L1.here (s:=⟨hh,gg,d,t,os⟩) ?_))))
 dsimp only
 rw[hx1]
 simp only[Bool.false_eq_true,if_false]
 unfold getAttrByItsOwn hookBefore
 rw[if_pos (show onTheHeap (Value.ref C)=true from rfl)]
 refine wpAny_bind (L2.here (s:=⟨hh,gg,d,t,os⟩) (wpAny_bind (wpAny_attempt (wpAny_holding ?_))))
 unfold callGetattribute
 rw[hx0]
 simp only[Bool.false_eq_true,if_false]
 unfold boundAndCalled
 rw[f3]
 refine wpAny_bind (wpAny_pure (wpAny_call ?_))
 refine codeAny_call_builtin PySem.F.excAttr_ValueError.ga.plain PySem.F.entry_bexc_ga ?_
 refine @check_slot (model prog w) _ _ ⟨hh,gg,d,t,os⟩ "BaseException.__getattribute__" "BaseException" "__getattribute__" (.ref x) [.str name tk] [] _ bga_kind bga_split L3 (PySem.F.args_bexc_ga _ _) ?_
 refine wpAny_mono h (fun fin s' z=>?_) fun _ _ z=>False.elim z
 cases fin with
 |again c=>exact z.elim
 |done f=>
  cases f with
  |ret v=>exact z
  |next=>exact z.elim
  |brk=>exact z.elim
  |cont=>exact z.elim
theorem get_x{o:Obj}{v:Value}(X:K.In s.heap)(I:InstAt s.heap x ox C (some o))(g:XGet K C)(ha:findIn K (.ref C) name=some none)(hl:lookIn name o=some (some v))(hh:handedIn v=true)(h:Q v {s with toks:=s.toks+1}):
  wpAny (model prog w) A (getAttr (.ref x) name expr) Q E s:=by
 have hf:findObj K C (some o) name=some (.value v):=findObj_own g.hd ha rfl hl
 unfold getAttr
 refine wpAny_bind (wpAny_mkText ?_)
 obtain⟨hp,gg,d,t,os⟩:=s
 have L0:=I.type (M:=model prog w)
 have L1:=looks_find (M:=model prog w) X I hf
 refine getBy_x (s:=⟨hp,gg,d,t+1,os⟩) X I g ?_
 refine wpAny_bind (wpAny_pure (wpAny_bind (wpAny_pure (wpAny_bind (L0.here (s:=⟨hp,gg,d,t+1,os⟩) (wpAny_bind (L1.here (s:=⟨hp,gg,d,t+1,os⟩) ?_)))))))
 refine wpAny_pure ?_
 exact handed_on hh h
theorem findObj_dataX{od:Option Obj}{a g:Value}(hc:(clsIn K C).isSome=true)(ha:findIn K (.ref C) name=some (some a))(hg:specialIn K a "__get__"=some (some g))(ht:takesIn K a=some true):findObj K C od name=some (.bind g a):=by
 obtain⟨cd,hcd⟩:=Option.isSome_iff_exists.mp hc
 unfold findObj
 rw[hcd,Option.bind_some,ha,Option.bind_some]
 dsimp only
 rw[hg,Option.bind_some]
 dsimp only
 rw[ht,Option.bind_some]
theorem class_x{Q:Option Value->Shared->Prop}(X:K.In s.heap)(I:InstAt s.heap x ox C od)(g:XGet K C)(h:Q (some (.ref C)) {s with toks:=s.toks+1}):wpAny (model prog w) A (getAttr? (.ref x) "__class__") Q E s:=by
 have hf:findObj K C od "__class__"=some (.bind (.builtin "getset_descriptor.__get__") (.builtin "object.__class__")):=
  findObj_dataX (by obtain⟨cd,hc,_⟩:=any_some g.hd;rw[hc];rfl) g.cl g.cg g.ct
 unfold getAttr? getAttrBy?
 refine wpAny_bind (wpAny_mkText (wpAny_bind (wpAny_attempt ?_)))
 obtain⟨hp,gg,d,t,os⟩:=s
 have L0:=I.type (M:=model prog w)
 have L1:=looks_find (M:=model prog w) X I hf
 refine getBy_x (s:=⟨hp,gg,d,t+1,os⟩) X I g ?_
 refine wpAny_bind (wpAny_pure (wpAny_bind (wpAny_pure (wpAny_bind (L0.here (s:=⟨hp,gg,d,t+1,os⟩) (wpAny_bind (L1.here (s:=⟨hp,gg,d,t+1,os⟩) ?_)))))))
 show wpAny _ _ (bindTo (.builtin "getset_descriptor.__get__") (.builtin "object.__class__") (.ref x) (.ref C)) _ _ _
 unfold bindTo
 dsimp only
 refine wpAny_bind (wpAny_holding (wpAny_call (class_get (s:=⟨hp,gg,d,t+1,os⟩) X I g.ob ?_)))
 refine wpAny_pure ?_
 exact handed_on rfl (wpAny_pure h)
theorem kitx_x(g:XGet K C):KitX K (.ref x) (.ref C) (fun h=>∃ox od,InstAt h x ox C od)where
 ty:=fun _ _ _⟨_,_,I⟩=>I.type
 it:=fun _ _ X _=>by
  obtain⟨cdD,hcD,_⟩:=any_some g.hd
  unfold clsIn at hcD
  split at hcD
  ·rename_i c' d' cd' sl' ho
   intro A' Q' E' s' k q
   unfold isType loadHead
   exact wpAny_bind (wpAny_loadPart (k _ _ (X _ _ ho)) (wpAny_pure q))
  ·cases hcD
 ne:=fun h tp dd its n sl X htp=>by
  obtain⟨cdD,hcD,_⟩:=any_some g.hd
  refine Bool.eq_false_iff.mpr fun q=>?_
  have e:C=tp:=Value.ref.inj (beq_iff_eq.mp q)
  subst e
  unfold clsIn at hcD
  split at hcD
  ·rename_i c' d' cd' sl' ho
   have z:=(X _ _ ho).symm.trans htp
   cases z
  ·cases hcD
 ca:=fun X⟨_,_,I⟩ k=>class_x X I g k
end
def XO(C:Addr)(od:Option Addr)(e:Addr):HO:= .ext fun h=>∃o fv,h.get? e=some o/\o.cls= .ref C/\o.dict=od/\o.data= .fields fv
theorem XO.ok{P:Program}{w:World}{H:Hp}{h:Heap}{C e:Addr}{od:Option Addr}{o:Obj}{fv:Array Value}(e1:h.get? e=some o)(e2:o.cls= .ref C)(e3:o.dict=od)(e4:o.data= .fields fv):ObjOk P w H h e (XO C od e):=
 ⟨⟨o,fv,e1,e2,e3,e4⟩,⟨_,e1⟩,fun _ _⟨o,fv,p,r⟩ k=>⟨o,fv,k _ p,r⟩⟩
section
variable{P:Program}{w:World}{H:Hp}{h:Heap}{C e:Addr}{od:Option Addr}
theorem XO.get(x:HOk P w H h)(q:H e=some (XO C od e)):∃o fv,h.get? e=some o/\o.cls= .ref C/\o.dict=od/\o.data= .fields fv:=(x e _ q).1
theorem notCls_fields{o:Obj}{fv:Array Value}(h:o.data= .fields fv):notCls o=true:=by unfold notCls;rw[h]
theorem XO.inst(x:HOk P w H h)(q:H e=some (XO C od e))(hd:∀dx,od=some dx->∃u,H dx=some u):∃ox oo,InstAt h e ox C oo:=by
 obtain⟨o,fv,e1,e2,e3,e4⟩:=XO.get x q
 cases od with
 |none=>exact⟨o,none,e1,e2,notCls_fields e4,by rw[e3];trivial⟩
 |some dx=>
  obtain⟨u,hu⟩:=hd dx rfl
  obtain⟨o',ho'⟩:=objAt (x dx u hu)
  exact⟨o,some o',e1,e2,notCls_fields e4,by rw[e3];exact ho'⟩
end
section
variable{X:Cx}{f:Str}{e:Expr}{ta:TE}{pos:Pos}
def tFldX(K:Frag)(ta:TE)(f:Str):TE:=fun σ H Q=>ta σ H fun x H1=>∃a C dx fs v,x= .ref a/\H1 a=some (XO C (some dx) a)/\H1 dx=some (.xd fs)/\XGet K C/\findIn K (.ref C) f=some none/\fs.lookup f=some v/\(∀n,v≠.ty n)/\Q v H1
theorem pe_fldX(he:PE X e ta)(hb:attributeBase e f X.env (eval e X.env)=eval e X.env):PE X (.Attribute e f pos) (tFldX X.K ta f):=by
 intro pins s σ H Q I h
 refine attr_of hb (thn (he pins s σ H _ I h) fun u s1 xq1=>?_)
 obtain⟨x,H1,I1,rx,a,C,dx,fs,v,ex,ea,ed,g,n,l,nt,q⟩:=xq1
 subst ex
 obtain rfl:u=Value.ref a:=rx
 obtain⟨o,fv,e1,e2,e3,e4⟩:=XO.get I1.hok ea
 obtain⟨mA,hns,r⟩:=(show ObjOk X.prog X.w H1 s1.heap dx (.xd fs)from I1.hok dx _ ed)
 obtain⟨u',hu,ru⟩:=RelO.some_of (v:=v) (o:=mA f) (by rw[<-l];exact r f)
 obtain⟨od,ho,hl⟩:=lookIn_ns hns
 exact get_x I1.kIn ⟨e1,e2,notCls_fields e4,by rw[e3];exact ho⟩ g n (by rw[hl,hu]) (handed_of ru) ⟨v,H1,I1.tok _,ru,q⟩
def clV:V->Option Value
 | .ref a=>some (.ref a)
 | .ty n=>some (.type n)
 |_=>none
theorem clV_rel{y:V}{c u:Value}(e:clV y=some c)(r:L2.RelV y u):u=c:=by
 cases y<;>cases e<;>exact r
inductive rIsX(K:Frag)(xs:List V)(H:Hp)(Q:VK):Prop
 |mk (a C od y c b:_) (_:xs=[.ref a,y]) (_:H a=some (XO C od a)) (_:(∀dx,od=some dx->∃u,H dx=some u)) (_:XGet K C) (_:clV y=some c) (_:kitOne K (.ref C) c=some b) (_:Q (.bl b) H)
theorem call_isinstX:CallR X (.builtin "isinstance") (rIsX X.K):=by
 intro pins s σ H xs us Q I r h
 obtain⟨a,C,od,y,c,b,rfl,ea,hd,g,ec,e,q⟩:=h
 obtain⟨u,w',rfl,rx,ry⟩:=vals2 r
 cases(show u=Value.ref a from rx)
 cases clV_rel ec ry
 exact kia_one (kitx_x g) I.kIn (XO.inst I.hok ea hd) e (fun z=>nomatch z) fun tk=>⟨.bl b,H,I.tok tk,rfl,q⟩
end
end RX
namespace RX
open PySem PySem.Spec PyProof.Rows L2 PySem.W
section
variable{X:Cx}{pins:List (Addr×Obj)}{σ:L2.St}{H0 H':Hp}{s0 s':Shared}{e C:Addr}{cls fl fl':Value}{od:Option Addr}{B h':Heap}
structure Ly(X:Cx)(H0:Hp)(s0:Shared)(e:Addr)(cls:Value)(od:Option Addr)(H':Hp)(B:Heap)(fl:Value)(s':Shared):Prop where
 os:s'.os=s0.os
 bare:AllBare s'.gens
 un:Un (frs X.stack) [] H0 H' s0.heap s'.heap
 hok:HOk X.prog X.w H' s'.heap
 fly:Fl B X.stack e cls od fl s'.heap
 k1:∀b o,s0.heap.get? b=some o->b ∉ frs X.stack->∃o',B.get? b=some o'
 k2:∀b u,H' b=some u->∃o,B.get? b=some o
theorem Ly.to(x:Ly X H0 s0 e cls od H' B fl s')(I:L2.Inv X pins σ H0 s0)(f:Fl B X.stack e cls od fl' h')(u:s'.heap.UpToSlots h'):Ly X H0 s0 e cls od H' B fl' {s' with heap:=h'}:=by
 refine⟨x.os,x.bare,un_leave x.un x.fly.stays f.stays x.k1 I.stkFree (fun b a o _=>?_) u,hok_stays x.hok x.k2 x.fly.stays f.stays,f,x.k1,x.k2⟩
 obtain⟨_,_,_,_⟩:=x.fly.frames.mem a
 simp_all
theorem Ly.free(x:Ly X H0 s0 e cls od H' B fl s'):H' e=none:=by
 cases q:H' e with
 |none=>rfl
 |_ u=>
  obtain⟨o,a⟩:=x.k2 e u q
  rw[x.fly.new]at a;cases a
theorem Ly.fresh(x:Ly X H0 s0 e cls od H' B fl s'):s0.heap.get? e=none:=by
 cases q:s0.heap.get? e with
 |none=>rfl
 |_ o=>
  by_cases a:e∈frs X.stack
  ·obtain⟨_,b,_,_⟩:=x.fly.frames.mem a
   obtain⟨_,_,_,_,_,_,_,_,_⟩:=x.fly.trace
   simp_all
  ·obtain⟨b,h⟩:=x.k1 e o q a
   rw[x.fly.new]at h;cases h
theorem Ly.inv(x:Ly X H0 s0 e cls od H' B fl s')(I:L2.Inv X pins σ H0 s0):L2.Inv X pins σ H' s':=
 I.call' x.os x.un x.hok x.bare fun b z=>absurd z (by simp)
theorem Ly.track(x:Ly X H0 s0 e (.ref C) od H' B fl s')(I:L2.Inv X pins σ H0 s0):L2.Inv X pins σ (upd H' e (XO C od e)) s':=by
 have _:=x.free
 have a:∀b v,H' b=some v->b≠e:=fun b v q z=>by simp_all
 refine I.call' x.os ⟨x.un.keep,x.un.slot,fun b o q n h=>?_,x.un.there,fun b d q=>?_,fun b o d q=>?_,fun b f q=>?_⟩ (fun b u q=>?_) x.bare fun b z=>absurd z (by simp)
 ·rw[upd_ne (fun z=>by rw[z,x.fresh]at q;cases q)]
  exact x.un.free b o q n h
 ·have r:=x.un.tups b d q
  rw[upd_ne (a b _ r)];exact r
 ·have r:=x.un.frzs b o d q
  rw[upd_ne (a b _ r)];exact r
 ·obtain⟨m,r⟩:=x.un.tbls b f q
  exact⟨m,by rw[upd_ne (a b _ r)];exact r⟩
 ·by_cases z:b=e
  ·subst z
   rw[upd_same]at q;cases q
   obtain⟨_,_,_,_,_,g,⟨i,k⟩,j,_⟩:=x.fly.trace
   exact XO.ok g i k j
  ·rw[upd_ne z]at q
   refine(x.hok b u q).stay (fun _ _ _ r=>r) (fun c r=>?_) fun c d r=>?_
   ·rw[upd_ne (a c _ r)];exact r
   ·rw[upd_ne (a c _ r)];exact r
end
abbrev mrk(X:Cx)(e:Addr):Cx:={X with A:=X.A.mark (some (.ref e)),calm:=false,xe:=fun _ _=>False}
section
variable{X:Cx}{pins:List (Addr×Obj)}{σ:L2.St}{H:Hp}{s:Shared}{e:Addr}
theorem inv_mrk(I:L2.Inv X pins σ H s)(e:Addr):L2.Inv (mrk X e) pins σ H s:=
 have a:=I.ok
 ⟨⟨a.mod,a.kind,a.glob,a.blt,a.above,a.inj,a.has,a.cab,(fun z=>Bool.noConfusion z),a.frames,a.stk,a.exf,a.bs,a.bsz,a.noex,a.exfs,a.funs,a.frf⟩,I.os,I.bare,I.base,I.loc,I.cell,I.free,I.freeC,I.pin,I.hok,I.len⟩
theorem inv_unmrk(ok:X.Ok)(I:L2.Inv (mrk X e) pins σ H s):L2.Inv X pins σ H s:=
 ⟨ok,I.os,I.bare,I.base,I.loc,I.cell,I.free,I.freeC,I.pin,I.hok,I.len⟩
theorem inv_pn{pn:List _}{E:Value->Shared->Prop}(I:L2.Inv X pins σ H s)(h:∀p∈pn,p∈X.pn++pins):L2.Inv {X with pn:=pn,xe:=E} [] σ H s:=
 have a:=I.ok
 ⟨⟨a.mod,a.kind,a.glob,a.blt,a.above,a.inj,a.has,a.cab,a.hd,a.frames,a.stk,a.exf,a.bs,a.bsz,a.noex,a.exfs,a.funs,a.frf⟩,I.os,I.bare,I.base,I.loc,I.cell,I.free,I.freeC,fun p b=>I.pin p (h p (by simpa using b)),I.hok,I.len⟩
theorem inv_unpn{pn pins':List _}{E:Value->Shared->Prop}(ok:X.Ok)(I:L2.Inv {X with pn:=pn,xe:=E} pins' σ H s)(h:∀p∈X.pn++pins,p∈pn):L2.Inv X pins σ H s:=
 ⟨ok,I.os,I.bare,I.base,I.loc,I.cell,I.free,I.freeC,fun p a=>I.pin p (List.mem_append_left _ (h p a)),I.hok,I.len⟩
theorem goes_ok{M}{A}{E:Value->Shared->Prop}{i}{n}{pos}{Q:Unit->Shared->Prop}(I:L2.Inv X pins σ H s)(hN:X.N.Nodup)(hi:X.N[i]?=some n)(hk:X.env.scope.names.lookup n=some .local)
  (h:∀s',L2.Inv X pins (σ.set i none) H s'->Q () s'):wpAny M A (do bindName X.env n .none;unbindBehindTheSuite X.env n pos) Q E s:=by
 obtain⟨m,B,hl⟩:=id I.loc
 have hiσ:i<σ.length:=by rw[I.len];exact(List.getElem?_eq_some_iff.mp hi).1
 obtain⟨oL,_,_,hoL,_⟩:=id B
 refine wpAny_nameGoes_keeps hk B (show(X.env.scope.kind== .class||(X.env.scope.kind== .module&&X.env.locals !=X.env.globals))=_ by rw[I.ok.kind];rfl) fun h' v x g=>?_
 have f:=fun b ob e=>by
  refine(I.hok b ob e).stay (fun c w' r q=>(g.2 c ?_).trans q) (fun _ q=>q) fun _ _ q=>q
  rintro rfl
  rcases r with r|r
  ·rw[<-r,I.free]at e;cases e
  ·rw[I.free]at r;cases r
 have l:∀b o,X.s₀.heap.get? b=some o->b≠X.env.locals:=fun b o e=>Nat.ne_of_lt (Nat.lt_of_lt_of_le (Heap.lt_size e) I.ok.above)
 refine h _ ⟨I.ok,I.os,I.bare,⟨fun b o e n w u=>?_,fun b o e n w u=>?_,I.base.free,fun b o e u=>?_,I.base.tups,I.base.frzs,I.base.tbls⟩,⟨_,x,fun j y v' t D e3=>?_⟩,fun y c e=>?_,I.free,I.freeC,fun p hp=>?_,f,by simpa using I.len⟩
 ·exact(g.2 b (l b o e)).trans (I.base.keep b o e n w u)
 ·obtain⟨sl,t⟩:=I.base.slot b o e n w u
  exact⟨sl,(g.2 b (l b o e)).trans t⟩
 ·obtain⟨o',t⟩:=I.base.there b o e u
  exact⟨o',(g.2 b (l b o e)).trans t⟩
 ·by_cases F:j=i
  ·simp_all
  ·rw[List.getElem?_set_ne (Ne.symm F)]at D
   obtain⟨u',r',q⟩:=hl j y v' t D e3
   refine⟨u',r',?_⟩
   rcases q with⟨k,e⟩|⟨k,c,e,z⟩
   ·refine .inl ⟨k,?_⟩
    have:y≠n:=fun e=>F (nodup_ix hN t (e▸hi))
    simp[this,e]
   ·exact .inr ⟨k,c,e,z.sameBut g (I.cne y c e)⟩
 ·obtain⟨w',z⟩:=I.cell y c e
  exact⟨w',z.sameBut g (I.cne y c e)⟩
 ·obtain⟨e,n,C,nf,d⟩:=I.pin p hp
  exact⟨(g.2 p.1 C).trans e,n,C,nf,d⟩
end
theorem match_own{M}{A}{E}{s}{K}{e C C'}{oe}{b}{Q}(X:K.In s.heap)(he:s.heap.get? e=some oe)(hc:oe.cls= .ref C)
  (k:kitCls K (.ref C) (.ref C')=some b)(hb:mroIn K C' (.type "BaseException")=some true)(q:Q b s):wpAny M A (excMatches (.ref e) (.ref C')) Q E s:=by
 obtain⟨f,i,c⟩:=kit_cls X k
 obtain⟨h,g,d,t,os⟩:=s
 have j:Looks M h (isExcClass (.ref C')) true:=by
  unfold isExcClass
  refine i.andThen ?_
  rw[if_pos rfl]
  exact looks_mroIn X hb
 refine wpAny_bind ((show Looks M h _ _ from f.andThen (Looks.of_pure tc_notTuple)).here (wpAny_bind (wpAny_pure (wpAny_bind ?_))))
 rw[List.forIn_cons]
 refine wpAny_bind (wpAny_bind (j.here ?_))
 refine wpAny_pure (wpAny_pure (wpAny_bind ((show Looks M h _ (.ref C)from hc▸(Looks.ld he).andThen .now).here (wpAny_bind ?_))))
 refine wpAny_bind (wpAny_bind (c.here ?_))
 cases b with
 |true=>exact wpAny_pure (wpAny_pure (wpAny_pure q))
 |_=>
  exact wpAny_pure (wpAny_pure (wpAny_pure q))
abbrev TH:=L2.St->Value->Option Addr->Hp->Ends->Prop
def PH(X:Cx)(hs:List ExceptHandler)(th:TH):Prop:=∀(pins:List (Addr×Obj))(σ:L2.St)(H0:Hp)(s0:Shared)(e:Addr)(cls:Value)(od:Option Addr)(H':Hp)(B:Heap)(s':Shared)(D:Ends),
 L2.Inv X pins σ H0 s0->Ly X H0 s0 e cls od H' B .none s'->th σ cls od H' D->wpAny (model X.prog X.w) X.A (handleBy (.ref e) X.env hs) (SP X pins D) X.xe s'
abbrev tryX(X:Cx)(pn:List (Addr×Obj))(E:Value->Shared->Prop):Cx:={X with pn:=pn,xe:=E}
def Takes(X:Cx)(Ex:L2.St->XK):Prop:=∀(pins:List (Addr×Obj))(σ:L2.St)(H:Hp)(s:Shared)(e:Value)(s':Shared),L2.Inv X pins σ H s->CXe X.prog X.w X.stack H s (Ex σ) e s'->X.xe e s'
def sTry(tb:(L2.St->XK)->TS)(th:TH):TS:=fun D σ H=>tb (fun σ' cls od H'=>th σ' cls od H' D) D σ H
section
variable{X:Cx}{body suite:List Stmt}{h₀:ExceptHandler}{hs rest:List ExceptHandler}{tb:(L2.St->XK)->TS}{th:TH}{pos hpos cp:Pos}
theorem ps_try(hst:X.stack=X.env::X.outer)(hf:X.env.frame=some X.env.locals)(hb:∀pn E Ex,Takes (tryX X pn E) Ex->PSs (tryX X pn E) body (tb Ex)) (hh:PH X (h₀::hs) th):PS X (.Try body (h₀::hs) [] [] pos) (sTry tb th):=by
 intro pins s σ H D I h
 refine wpAny_Try_except ?_
 refine wpAny_mono (hb (X.pn++pins) (fun ev s₁=>wpAny (model X.prog X.w) X.A (noteFrame ev X.env) (fun _ s₂=>wpAny (model X.prog X.w) X.A (setFlight ev none) (fun _ s₃=>wpAny (model X.prog X.w) X.A (handleBy ev X.env (h₀::hs)) (SP X pins D) X.xe s₃) X.xe s₂) X.xe s₁)
  (fun σ' cls od H'=>th σ' cls od H' D) (fun pins' σ' H1 s1 ev s' I1 x=>?_) [] s σ H D (inv_pn I fun p hp=>hp) h) (fun f s1 q=>?_) fun _ _ q=>q
 ·have I2:L2.Inv X pins σ' H1 s1:=inv_unpn I.ok I1 fun p hp=>hp
  obtain⟨e,cls,od,H',B,rfl,os,bare,un,hok,fl,k1,k2,q⟩:=x
  have y:Ly X H1 s1 e cls od H' B .none s':=⟨os,bare,un,hok,fl,k1,k2⟩
  have fl':Fl B (X.env::X.outer) e cls od .none s'.heap:=by rw[<-hst];exact fl
  show wpAny (model X.prog X.w) X.A (noteFrame (.ref e) X.env) _ _ s'
  refine note_on (by rw[<-hst];exact I.ok.frames) hf fl' fun h1 f1 u1=>?_
  rw[<-hst]at f1
  have y1:=y.to I2 f1 u1
  refine flight_off (s:={s' with heap:=h1}) f1 fun h2 f2 u2=>?_
  exact hh pins σ' H1 s1 e cls od H' B _ D I2 (y1.to I2 f2 u2) q
 ·have up:∀{σ':L2.St}{H':Hp}{EE:Value->Shared->Prop},L2.Inv (tryX X (X.pn++pins) EE) [] σ' H' s1->L2.Inv X pins σ' H' s1:=fun J=>inv_unpn I.ok J fun p hp=>hp
  cases f with
  |next=>obtain⟨σ',H',J,r⟩:=q;exact wpAny_pure ⟨σ',H',up J,r⟩
  |brk=>obtain⟨σ',H',J,r⟩:=q;exact⟨σ',H',up J,r⟩
  |cont=>obtain⟨σ',H',J,r⟩:=q;exact⟨σ',H',up J,r⟩
  |ret u=>obtain⟨v,σ',H',J,rv,r⟩:=q;exact⟨v,σ',H',up J,rv,r⟩
theorem ph_nil:PH X [] (fun _ _ _ _ _=>False):=fun _ _ _ _ _ _ _ _ _ _ _ _ _ h=>h.elim
def unE(i:Nat)(D:Ends):Ends:={nx:=fun σ H=>D.nx (σ.set i none) H,rt:=D.rt,bk:=fun σ H=>D.bk (σ.set i none) H,ct:=fun σ H=>D.ct (σ.set i none) H}
def thAs(K:Frag)(C':Addr)(i:Nat)(ts:TS)(th:TH):TH:=fun σ cls od H D=>∃C b,cls= .ref C/\kitCls K (.ref C) (.ref C')=some b/\
 if b=true then∀e,H e=none->ts (unE i D) (σ.set i (some (.ref e))) (upd H e (XO C od e))else th σ cls od H D
theorem ph_as{c n:Str}{C':Addr}{i:Nat}{b₀:Stmt}{ts:TS}(hg:Gl X c)(hm:X.mg c=some (.ref C'))(hbe:mroIn X.K C' (.type "BaseException")=some true)(hN:X.N.Nodup)(hi:X.N[i]?=some n)
  (hk:X.env.scope.names.lookup n=some .local)(hs:∀e,PSs (mrk X e) (b₀::suite) ts) (hr:PH X rest th) (hdb:(c==("__debug__":Str))=false:=by decide):
  PH X (.ExceptHandler (some (.Name c cp)) (some n) (b₀::suite) hpos::rest) (thAs X.K C' i ts th):=by
 intro pins σ H0 s0 e cls od H' B s' D I y h
 obtain⟨C,b,rfl,hkit,h⟩:=h
 have J:=y.inv I
 have Jm:=inv_mrk J e
 obtain⟨oe,vs,_,_,_,he,⟨hc,_⟩,_⟩:=y.fly.trace
 refine wpAny_handleBy_cons (codeAny_handlers_test (ld_glob (X:=mrk X e) Jm hg hm ?_ hdb)) (by intro q;cases q)
 refine match_own J.kIn he hc hkit hbe ?_
 cases b with
 |false=>
  rw[if_neg (by decide)]at h
  exact hr pins σ H0 s0 e _ od H' B s' D I y h
 |true=>
  rw[if_pos rfl]at h
  refine codeAny_handlers_suite_as ?_
  refine flight_off y.fly fun h2 f2 u2=>?_
  have y2:=y.to I f2 u2
  have J2:=inv_mrk (y2.track I) e
  refine store_ok (X:=mrk X e) J2 hN hi (.inl hk) (v:= .ref e) rfl (fun s3 J3=>?_) (.inr hk)
  refine wpAny_mono (hs e pins s3 _ _ (unE i D) J3 (h e y.free)) (fun f s4 q=>?_) fun _ _ z=>False.elim z
  have ok:=I.ok
  cases f with
  |next=>obtain⟨σ',H4,J4,r⟩:=q;exact goes_ok (inv_unmrk ok J4) hN hi hk fun s5 J5=>⟨_,_,J5,r⟩
  |brk=>obtain⟨σ',H4,J4,r⟩:=q;exact goes_ok (inv_unmrk ok J4) hN hi hk fun s5 J5=>⟨_,_,J5,r⟩
  |cont=>obtain⟨σ',H4,J4,r⟩:=q;exact goes_ok (inv_unmrk ok J4) hN hi hk fun s5 J5=>⟨_,_,J5,r⟩
  |ret u=>obtain⟨v,σ',H4,J4,rv,r⟩:=q;exact goes_ok (inv_unmrk ok J4) hN hi hk fun s5 J5=>⟨v,_,_,J5,rv,r⟩
end
structure RoomM(k:Nat)(A:Around):Prop where
 dp:A.depth+3*k+5<recursionLimit
 un:A.units+16*k+200<cLine
theorem RoomM.of{k}{A}(r:Room k A)(h:Option _):RoomM k (A.mark h):=⟨r.dp,r.un⟩
theorem RoomM.mono{j k}{A}(r:RoomM k A)(h:j<=k):RoomM j A:=⟨by have:=r.dp;omega,by have:=r.un;omega⟩
theorem RoomM.deeper{k}{A}(r:RoomM (k+1) A)(env:Env):RoomM k (A.deeper env):=
 ⟨by have:=r.dp;show A.depth+1+3*k+5<_;omega,by have:=r.un;show A.units+3+16*k+200<_;omega⟩
theorem RoomM.units{k:Nat}{A:Around}(r:RoomM k A):A.units+64<cLine:=by have:=r.un;omega
structure FnM(P:Program)(w:World)(K:Frag)(mg:Str->Option Value)(base:Heap)(k:Nat)(f:Addr)(fd:FuncData)(ps:List Str)(sp:Sp):Prop where
 len:∀vs H Q E,sp vs H Q E->vs.length=ps.length
 run:∀(A:Around)(outer:List Env)(s:Shared)(H:Hp)(args:Args)(us:List Value)(vs:List V)(Q:VK),RoomM k A->Env0 P w K mg base A outer s H->BindsTo s fd args (ps.zip us)->Vals vs us->sp vs H Q E0->
  codeAny (model P w) A (.call (.ref f) args) (CR CX0 outer P w H s Q E0) s
abbrev cxM(P:Program)(w:World)(K:Frag)(mg:Str->Option Value)(base:Heap)(N:List Str)(qual:Str)(scope:Scope)(f:Addr)(cd:Value)(A:Around)(outer:List Env)(s:Shared)(H:Hp):Cx:=
 {cxOf CX0 P w K mg base N qual scope f cd A outer s H E0 with calm:=false,xe:=fun _ _=>False}
theorem inv_reA{X:Cx}{pins:List _}{σ:L2.St}{H:Hp}{s:Shared}(I:L2.Inv X pins σ H s)(A':Around)(hA:A'.frames=some X.stack)(E:Value->Shared->Prop):L2.Inv {X with A:=A',calm:=false,xe:=E} pins σ H s:=
 have a:=I.ok
 ⟨⟨a.mod,a.kind,a.glob,a.blt,a.above,a.inj,a.has,a.cab,(fun z=>Bool.noConfusion z),hA,a.stk,a.exf,a.bs,a.bsz,a.noex,a.exfs,a.funs,a.frf⟩,I.os,I.bare,I.base,I.loc,I.cell,I.free,I.freeC,I.pin,I.hok,I.len⟩
theorem fnM_of{P}{w}{K:Frag}{mg:Str->Option _}{base}{k}{f}{name qual}{params}{body:List _}{scope:Scope}{dV kV doc pm cdv ct oc:Value}{an od:Option _}
  {osl:Array (Option Value)}{N ps:List _}{sp:Sp}(lk:K.lookup f=some ⟨oc,od,.func (fnOf name qual params body scope dV kV doc pm an cdv ct),osl⟩)(hcd:codeIn K cdv qual=true)(S:FnScope N ps scope)
  (len:∀vs H Q E,sp vs H Q E->vs.length=ps.length)
  (hbody:∀(A:Around)(outer:List _)(s:Shared)(H:Hp)(vs:List V)(Q:VK),RoomM k (A.deeper (envOfC qual scope s.heap.objs.size f cdv))->sp vs H Q E0->
   ∃t,PSs (cxM P w K mg base N qual scope f cdv A outer s H) body t/\t {nx:=fun _ H'=>Q .non H',rt:=Q} (start N vs) H):
  FnM P w K mg base (k+1) f (fnOf name qual params body scope dV kV doc pm an cdv ct) ps sp:=by
 refine⟨len,fun A outer s H args us vs Q hr a hb r h=>?_⟩
 have KX:=a.mod.kin.keeps fun b o e=>(a.bs b o e).1
 have c:∀y∈ps.zip us,scope.names.lookup y.1=some .local\/(scope.names.lookup y.1=some .cell/\((cellsFrom (s.heap.objs.size+1) scope.names []).lookup y.1).isSome=true):=fun⟨n,v⟩ hy=>by
  rcases S.par n (List.of_mem_zip hy).1 with q|q
  ·exact .inl q
  ·exact .inr ⟨q,cellsFrom_some _ _ _ (.inl q)⟩
 refine codeAny_call_function (by have:=hr.dp;omega) (KX _ _ lk) rfl S.co S.gen rfl (codeRec_of KX hcd) (hb _ _ _ _ (wpAny_newFunctionEnv_cells S.kind c fun env he p x=>?_))
 subst he
 refine⟨(a.mod.nolimit.keeps fun b o e=>(a.bs b o e).1).keeps x.toInCall.keep,codeAny_func ?_⟩
 obtain⟨t,ht,hq⟩:=hbody A outer s H vs Q (hr.deeper _) h
 refine wpAny_mono (ht [] p (start N vs) H _ (show L2.Inv (cxM P w K mg base N qual scope f cdv A outer s H) [] (start N vs) H p from inv_reA (show L2.Inv (cxOf CX0 P w K mg base N qual scope f cdv {A with handled:=none} outer s H E0) [] (start N vs) H p from inv_start S rfl (show Env0 P w K mg base {A with handled:=none} outer s H from⟨a.frames,a.mod,a.bs,a.bsz,a.funs,a.frf,a.hok,a.bare⟩) (len _ _ _ _ h) r x) (A.deeper (envOfC qual scope s.heap.objs.size f cdv)) (Around.frames_deeper a.frames) _) hq) (fun fl s' d=>?_) fun e s' d=>False.elim d
 have g:∀{j:L2.St}{H':Hp}{v:V}{u:Value},L2.Inv (cxM P w K mg base N qual scope f cdv A outer s H) [] j H' s'->L2.RelV v u->Q v H'->CE outer P w H s Q u s':=
  fun{j H' v u} J m q=>⟨v,H',J.os,J.bare,J.base,J.hok,m,q⟩
 cases fl with
 |ret u=>
  obtain⟨v,j,H',J,m,q⟩:=d
  exact g J m q
 |next=>
  obtain⟨j,H',J,q⟩:=d
  exact g (v:=V.non) (u:=Value.none) J rfl q
 |brk=>
  obtain⟨_,_,_,q⟩:=d
  exact False.elim q
 |cont=>
  obtain⟨_,_,_,q⟩:=d
  exact False.elim q
theorem funM_ok{P}{w}{K}{mg:Str->Option _}{base}{x qual}{st}{f}{fd}{N ps:List _}{k}{sp:Sp}(F:L2.Fun K x qual st f fd)(S:FnScope N ps (L2.defScope st))(len:∀vs H Q E,sp vs H Q E->vs.length=ps.length)
  (hbody:∀(cdv:Value)(A:Around)(outer:List _)(s:Shared)(H:Hp)(vs:List V)(Q:VK),RoomM k (A.deeper (envOfC qual (L2.defScope st) s.heap.objs.size f cdv))->sp vs H Q E0->
   ∃t,PSs (cxM P w K mg base N qual (L2.defScope st) f cdv A outer s H) (L2.defBody st) t/\t {nx:=fun _ H'=>Q .non H',rt:=Q} (start N vs) H):FnM P w K mg base (k+1) f fd ps sp:=by
 obtain⟨_,_,kV,_,_,_,cdv,_,_,rfl,c,a⟩:=F.ex
 exact fnM_of c a S len fun A outer s H vs Q d b=>hbody _ A _ s H vs Q d b
theorem funX_ok{P}{w}{K}{mg:Str->Option _}{base}{x qual}{st}{f}{fd}{N ps:List _}{k}{sp:Sp}(F:L2.Fun K x qual st f fd)(S:FnScope N ps (L2.defScope st))(len:∀vs H Q E,sp vs H Q E->vs.length=ps.length)
  (hbody:∀(cdv:Value)(A:Around)(outer:List _)(s:Shared)(H:Hp)(vs:List V)(Q:VK)(E:XK),Room k (A.deeper (envOfC qual (L2.defScope st) s.heap.objs.size f cdv))->sp vs H Q E->
   ∃t,PSs (cxOf (CXe P w) P w K mg base N qual (L2.defScope st) f cdv A outer s H E) (L2.defBody st) t/\t {nx:=fun _ H'=>Q .non H',rt:=Q} (start N vs) H):FnOk P w K mg base (CXe P w) (k+1) f fd ps sp:=by
 obtain⟨_,_,kV,_,_,_,cdv,_,_,rfl,c,a⟩:=F.ex
 exact fn_of c a S len fun A outer s H vs Q E d b=>hbody _ A _ s H vs Q E d b
section
variable{X:Cx}{k:Nat}{f:Addr}{fd:FuncData}{ps:List Str}{sp:Sp}{dvs:List V}{ds:List Value}{x:Str}{p pos:Pos}{e:Expr}{es:List Expr}{t:TA}
theorem pe_callM(F:FnM X.prog X.w X.K X.mg X.base k f fd ps sp)(hr:RoomM k X.A)(hg:Gl X x)(hm:X.mg x=some (.ref f))(hk:PySem.W.keepIn X.K (.ref f)=true)(hb:L2.Binds X.K fd ps ds)(hd:Vals dvs ds)
  (ha:PA X (e::es) t)(hdb:(x==("__debug__":Str))=false:=by decide)(he:starEach (e::es) X.env=(false,eval e X.env)::starEach es X.env:=by rfl)(hpl:(backTo pos (starEach es X.env)).any (·.1)=false:=by rfl):
  PE X (.Call (.Name x p) (e::es) [] pos) (tCall sp dvs E0 t):=by
 refine fun a s σ H Q I h=>wpAny_Call_Name_kw (ld_glob I hg hm (PySem.W.callWith_K (h₀:=X.base) I.ok.mod.kin hk (thn (ha pos a s σ H _ I h) fun c i⟨m,j,d,r,q⟩=>⟨d.kIn,?_⟩) he hpl) hdb)
 have g:=r.append hd
 refine wpAny_call (codeAny_mono (F.run X.A X.stack i j ⟨c,[]⟩ (c++ds) (m++dvs) Q hr d.env0 (hb i c d.kIn (show(c++ds).length=ps.length by rw[<-g.length];exact F.len _ _ _ _ q)) g q) fun r _ b=>?_)
 cases r with
 |error e=>exact False.elim b
 |_ l=>
  cases l with
  |ret u=>exact d.after b
  |next=>exact False.elim b
  |brk=>exact False.elim b
  |_=>exact False.elim b
end
def xnIn(K:Frag)(C:Addr):Bool:=match K.lookup C with
 |some ⟨_,_,.cls cd,_⟩=>(match K.lookup cd.ns with|some ⟨_,_,.dict es _,_⟩=>es.toList.all strKey&&(nsFind es "__init__").isNone|_=>false)
 |_=>false
theorem ns_of{K:Frag}{h:Heap}{C D:Addr}(X:K.In h)(e:xnIn K C=true):
  ∃mN,(∀nm q N bs sn sub ab col dd k0 k1 k2 k3 k5,h.get? C=some (excClassObj nm q C N bs (.ref D::veMro) true sn sub ab col dd k0 k1 k2 k3 k5 "ValueError.__new__")->h.Ns N mN)/\mN "__init__"=none:=by
 unfold xnIn at e
 split at e
 ·rename_i c d cd sl hC
  split at e
  ·rename_i c3 d3 es n3 sl3 hN
   rw[Bool.and_eq_true]at e
   refine⟨nsFind es,fun nm q N bs sn sub ab col dd k0 k1 k2 k3 k5 hg=>?_,by simpa using e.2⟩
   have z:=(X _ _ hC).symm.trans hg
   have z2:cd.ns=N:=congrArg (fun o:Option Obj=>match o with|some ⟨_,_,.cls cd,_⟩=>cd.ns|_=>0) z
   subst z2
   exact⟨_,es,n3,X _ _ hN,rfl,strKeys_of e.1,fun _=>rfl⟩
  ·cases e
 ·cases e
def sRaise0(C:Addr)(E:XK):TS:=fun _ _ H=>E (.ref C) none H
theorem ps_raise0{X:Cx}{k:Nat}{C D:Addr}{E:XK}{x:Str}{np pos cpos:Pos}(c:xcIn X.K C D=true)(cn:xnIn X.K C=true)(kp:keepIn X.K (.ref C)=true)(hr:Room k X.A)(hg:Gl X x)(hm:X.mg x=some (.ref C))
  (hst:X.stack=X.env::X.outer)(hf:X.env.frame=some X.env.locals)(hex:X.ex=[])
  (hxe:∀e s',wpAny (model X.prog X.w) X.A (leaving X.env e) (fun _ s''=>CXe X.prog X.w X.outer X.H₀ X.s₀ E e s'') (fun e' s''=>CXe X.prog X.w X.outer X.H₀ X.s₀ E e' s'') s'->X.xe e s')
  (hdb:(x==("__debug__":Str))=false:=by decide):PS X (.Raise (some (.Call (.Name x np) [] [] cpos)) none pos) (sRaise0 C E):=by
 intro pins s σ H Dn I h
 refine exec_raise (C:=C) (D:=D) hr.hd (wpAny_Call_Name_kw (ld_glob I hg hm ?_ hdb))
 refine PySem.W.callWith_K0 I.kIn kp ?_
 obtain⟨hp,g,d,tk,os⟩:=s
 refine call_exc_plain (clsAt_of I.kIn c) (ns_of I.kIn cn) (fun h' e hM=>?_) (Nat.zero_le _)
 obtain⟨t,he,ht,htt⟩:=hM.there
 have I1:=I.kept (h':=h') (t':=tk) hM.keeps
 have noA:∀b:Addr,b ∉ X.ex:=fun b z=>by rw[hex]at z;cases z
 have hn:X.s₀.heap.get? e=none:=by
  cases q:X.s₀.heap.get? e with
  |none=>rfl
  |some o=>
   obtain⟨o',q'⟩:=I.base.there e o q (noA e)
   have:=hM.new
   rw[show hp.get? e=some o' from q']at this
   cases this
 have hfree:H e=none:=by
  cases q:H e with
  |none=>rfl
  |some u=>
   obtain⟨o,ho⟩:=objAt (I.hok e u q)
   have:=hM.new
   rw[show hp.get? e=some o from ho]at this
   cases this
 exact⟨e,t,none,rfl,clsAt_of I1.kIn c,he,hxe _ _ (raise_leaves hst hf hex I1 hn he hfree h)⟩
theorem pe_fldXK{X:Cx}{K:Frag}{f:Str}{e:Expr}{ta:TE}{pos:Pos}(hK:X.K=K)(he:PE X e ta)(hb:attributeBase e f X.env (eval e X.env)=eval e X.env):PE X (.Attribute e f pos) (tFldX K ta f):=by
 subst hK
 exact pe_fldX he hb
end RX
namespace My
def atB(e:Nat×Nat)(p:Nat):Bool:=p==e.1||p==e.2
theorem atB_iff:atB e p=true↔At e p:=by
 unfold atB At
 simp_all
def dg(es:List (Nat×Nat))(k p:Nat):Nat:=((List.range k).filter fun j=>atB (es.getD j (0,0)) p).length
theorem dg_succ(es)(k p):dg es (k+1) p=dg es k p+if atB (es.getD k (0,0)) p then 1 else 0:=by
 unfold dg
 rw[List.range_succ,List.filter_append,List.length_append]
 congr 1
 rw[List.filter_cons]
 split<;>rfl
def IsMax(xs:List Int)(M:Int):Prop:=(xs=[]/\M=0)\/(M∈xs/\∀a∈xs,a<=M)
theorem IsMax.uniq(h:IsMax xs M)(h':IsMax xs M'):M=M':=by
 rcases h with⟨e,h⟩|⟨_,_⟩<;>rcases h' with⟨_,h'⟩|⟨_,_⟩
 ·omega
 ·simp_all
 ·simp_all
 ·grind
def dl(es:List (Nat×Nat))(n:Nat):List Int:=(List.range n).map fun p:Nat=>(dg es es.length p)
theorem most_le(h:IsMax (dl es n) M){p}(hp:p<n):(dg es es.length p)<=M:=by
 have a:(dg es _ p:Int)∈dl es n:=List.mem_map.mpr ⟨p,List.mem_range.mpr hp,rfl⟩
 rcases h with⟨e,_⟩|⟨_,h⟩
 ·simp_all
 ·exact h _ a
theorem dg_le(es)(k p):dg es k p<=k:=Nat.le_trans (List.length_filter_le _ _) (by simp_all)
theorem most_nn(h:IsMax (dl es n) M):0<=M/\M<=es.length:=by
 rcases h with⟨_,h⟩|⟨h,_⟩
 ·omega
 ·obtain⟨p,_,rfl⟩:=List.mem_map.mp h
  have:=dg_le es es.length p
  omega
theorem sub_len:∀{a b:List Nat},a.Nodup->(∀x∈a,x∈b)->a.length<=b.length
 |[],b,_,_=>Nat.zero_le _
 |x::a,b,e,h=>by
  have c:=List.nodup_cons.mp e
  have _:=h x (.head _)
  have _:=sub_len c.2 fun y d=>(List.mem_erase_of_ne (fun(z:y=x)=>c.1 (z▸d))).mpr (h y (.tail _ d))
  grind
theorem filt_or(p q r:Nat->Bool):∀l:List _,(l.filter fun j=>p j&&(q j||r j)).length<=(l.filter fun j=>p j&&q j).length+(l.filter fun j=>p j&&r j).length
 |[]=>Nat.le_refl _
 |x::l=>by
  have _:=filt_or p q r l
  simp[List.filter_cons]
  cases p x<;>cases q x<;>cases r x<;>simp<;>omega
theorem filt_ne(k)(q)(hq:q k=true):∀l:List Nat,k∈l->(l.filter fun j=>j !=k&&q j).length+1<=(l.filter q).length
 |[],h=>by cases h
 |x::l,h=>by
  by_cases e:x=k
  ·subst e
   have _:(l.filter fun j=>j !=x&&q j).length<=(l.filter q).length:=by
    clear h
    induction l with
    |nil=>exact Nat.le_refl _
    |_ y l a=>
     simp only[List.filter_cons]
     cases _:(y !=x)<;>cases _:q y<;>simp<;>omega
   simp_all
  ·have a:=filt_ne k q hq l ((List.mem_cons.mp h).resolve_left fun z=>e z.symm)
   simp only[List.filter_cons]
   have:(x !=k)=true:=by simp[e]
   rw[this]
   cases q x<;>simp<;>omega
theorem clean_set(hC:CleanTo es tl es.length)(hl:tl.length=es.length)(hk:k<es.length)(n1:¬Used es tl es.length (es.getD k (0,0)).1 t)(n2:¬Used es tl es.length (es.getD k (0,0)).2 t):
  CleanTo es (tl.set k (some t)) es.length:=by
 have g:∀p,At (es.getD k (0,0)) p->¬Used es tl _ p t:=fun p c=>by
  rcases c with rfl|rfl
  ·exact n1
  ·exact n2
 intro i j l m e b a p c d
 rw[List.getElem?_set]at b a
 by_cases h:k=i
 ·subst h
  rw[if_pos rfl,if_pos (by omega)]at b
  cases b
  rw[if_neg (by omega)]at a
  exact g p c ⟨j,by omega,a,d⟩
 ·rw[if_neg h]at b
  by_cases f:k=j
  ·subst f
   rw[if_pos rfl,if_pos (by omega)]at a
   cases a
   exact g p d ⟨i,e,b,c⟩
  ·rw[if_neg f]at a
   exact hC i j l m e b a p c d
end My
namespace L2
open PySem PySem.Spec PyProof.Rows
theorem cf_app:∀(names:List (Str×NameKind))(n:Nat)(acc:List (Str×Addr)),cellsFrom n names acc=cellsFrom n names []++acc
 |[],_,_=>rfl
 |(x,k)::r,n,acc=>by
  unfold cellsFrom
  split
  ·rw[cf_app r (n+1) ((x,n)::acc),cf_app r (n+1) [(x,n)],List.append_assoc]
   rfl
  ·exact cf_app r n acc
theorem cf_mem:∀{names:List (Str×NameKind)}{n:Nat}{x:Str}{c:Addr},(x,c)∈cellsFrom n names []->(x,NameKind.cell)∈names/\n<=c
 |[],_,_,_,h=>by cases h
 |(y,k)::r,n,x,c,h=>by
  unfold cellsFrom at h
  split at h
  ·rename_i hk
   rw[cf_app]at h
   rcases List.mem_append.mp h with z|z
   ·have:=cf_mem z
    exact⟨.tail _ this.1,by omega⟩
   ·cases List.mem_singleton.mp z
    rw[show k=NameKind.cell from by simpa using hk]
    exact⟨.head _,Nat.le_refl _⟩
  ·exact⟨.tail _ (cf_mem h).1,(cf_mem h).2⟩
theorem lookup_app{α:Type}:∀{l m:List (Str×α)}{x:Str}{c:α},(l++m).lookup x=some c->l.lookup x=some c\/(l.lookup x=none/\m.lookup x=some c)
 |[],_,_,_,h=> .inr ⟨rfl,h⟩
 |(y,d)::r,m,x,c,h=>by
  rw[List.cons_append]at h
  cases hx:x==y with
  |true=>simp only[List.lookup_cons,hx]at h⊢;exact .inl h
  |false=>simp only[List.lookup_cons,hx]at h⊢;exact lookup_app h
theorem lookup_app_r{α:Type}:∀{l m:List (Str×α)}{x:Str}{c:α},l.lookup x=none->m.lookup x=some c->(l++m).lookup x=some c
 |[],_,_,_,_,h=>h
 |(y,d)::r,m,x,c,hn,h=>by
  rw[List.cons_append]
  cases hx:x==y with
  |true=>simp only[List.lookup_cons,hx]at hn;cases hn
  |false=>simp only[List.lookup_cons,hx]at hn⊢;exact lookup_app_r hn h
theorem relabel_back2{env:Env}:∀{names:List (Str×NameKind)}{x:Str},
  ((names.map fun(n,k)=>if(k==NameKind.free&&env.scope.kind== .function&&env.kindOf n==some .cell)then(n,NameKind.cell)else(n,k)).lookup x=some .cell\/
  (names.map fun(n,k)=>if(k==NameKind.free&&env.scope.kind== .function&&env.kindOf n==some .cell)then(n,NameKind.cell)else(n,k)).lookup x=some .free)->names.lookup x=some .free\/names.lookup x=some .cell
 |[],_,h=>by simp at h
 |(n,k)::r,x,h=>by
  have ih:=@relabel_back2 env r x
  simp only[List.map_cons]at h
  cases hx:x==n with
  |true=>
   by_cases hc:(k==NameKind.free&&env.scope.kind== .function&&env.kindOf n==some .cell)=true
   ·simp only[Bool.and_eq_true,beq_iff_eq]at hc
    simp only[List.lookup_cons,hx]
    rw[hc.1.1]
    exact .inl rfl
   ·rw[if_neg hc]at h
    simp only[List.lookup_cons,hx]at h⊢
    exact h.elim .inr .inl
  |false=>
   simp only[List.lookup_cons,hx]
   by_cases hc:(k==NameKind.free&&env.scope.kind== .function&&env.kindOf n==some .cell)=true
   ·rw[if_pos hc]at h;simp only[List.lookup_cons,hx]at h;exact ih h
   ·rw[if_neg hc]at h;simp only[List.lookup_cons,hx]at h;exact ih h
def cxBlkC(X:Cx)(scope:Scope)(cl:List (Str×Addr))(C:Addr)(N:List Str)(fp:List Addr)(s:Shared)(H:Hp):Cx:=
 {X with N:=N,s₀:=s,H₀:=H,env:=compEnvC scope (cellsFrom (C+1) scope.names cl) C X.env,outer:=X.stack,ex:=fp,fn:=fun x=>decide (scope.names.lookup x=some .cell),pn:=[],xe:=fun _ _=>False}
structure BlkC(X:Cx)(scope:Scope)(cl:List (Str×Addr))(N:List Str)(bs:List (Option Nat)):Prop where
 clos:closureFor scope X.env=pure cl
 kind:scope.kind= .function
 cell:∀y∈scope.names,y.2= .cell->scope.names.lookup y.1=some .cell
 names:∀y∈scope.names,y.2= .local->scope.names.lookup y.1=some .local
 cl1:∀p∈cl,X.env.cells.lookup p.1=some p.2
 cl2:∀y∈scope.names,y.2= .free->(cl.lookup y.1).isSome=true
 bs:BsOk X.N X.env.scope.names scope.names N bs
section
variable{X:Cx}{scope:Scope}{cl:List (Str×Addr)}{N:List Str}{bs:List (Option Nat)}{pins:List (Addr×Obj)}{σ:St}{H:Hp}{s:Shared}{fp:List Addr}{C:Addr}
theorem BlkC.c1(B:BlkC X scope cl N bs){x:Str}{c:Addr}(h:cl.lookup x=some c):X.env.cells.lookup x=some c:=B.cl1 (x,c) (PySem.mem_of_lookup h)
theorem BlkC.either(B:BlkC X scope cl N bs){x:Str}{c:Addr}(h:(cellsFrom (C+1) scope.names cl).lookup x=some c):(C<c/\(x,c)∈cellsFrom (C+1) scope.names [])\/X.env.cells.lookup x=some c:=by
 rw[cf_app]at h
 rcases lookup_app h with z|⟨_,z⟩
 ·have m:=PySem.mem_of_lookup z
  exact .inl ⟨(cf_mem m).2,m⟩
 ·exact .inr (B.c1 z)
theorem BlkC.fr(B:BlkC X scope cl N bs){x:Str}{c:Addr}(hx:scope.names.lookup x=some .free)(h:cl.lookup x=some c):(cellsFrom (C+1) scope.names cl).lookup x=some c:=by
 rw[cf_app]
 refine lookup_app_r ?_ h
 cases q:(cellsFrom (C+1) scope.names []).lookup x with
 |none=>rfl
 |some c'=>
  have:=B.cell _ (cf_mem (PySem.mem_of_lookup q)).1 rfl
  rw[hx]at this
  cases this
theorem BlkC.c2(B:BlkC X scope cl N bs){x:Str}(h:(compEnvC scope (cellsFrom (C+1) scope.names cl) C X.env).kindOf x=some .cell\/(compEnvC scope (cellsFrom (C+1) scope.names cl) C X.env).kindOf x=some .free):∃c,(cellsFrom (C+1) scope.names cl).lookup x=some c:=by
 rcases relabel_back2 (env:=X.env) h with z|z
 ·obtain⟨c,e⟩:=Option.isSome_iff_exists.mp (B.cl2 (x,.free) (PySem.mem_of_lookup z) rfl)
  exact⟨c,B.fr z e⟩
 ·exact Option.isSome_iff_exists.mp (PySem.W.cellsFrom_some scope.names (C+1) cl (.inl z))
theorem BlkC.ok(B:BlkC X scope cl N bs)(I:Inv X pins σ H s)(hf:∀b∈fp,FpOk X pins H b) (ho:∀b∈fp,∃o,s.heap.get? b=some o/\∀v,o.data≠.cell v) (hC:s.heap.objs.size<=C) (ap:(cellsFrom (C+1) scope.names []).Pairwise fun x y=>x.2≠y.2):(cxBlkC X scope cl C N fp s H).Ok:=by
 have lo:∀x c,X.env.cells.lookup x=some c->c<s.heap.objs.size:=fun x c e=>by
  obtain⟨v,o,ho,_⟩:=I.cell x c e
  exact Heap.lt_size ho
 refine⟨I.ok.mod,B.kind,I.ok.glob,I.ok.blt,hC,fun x y c h1 h2=>?_,fun x h=>B.c2 h,fun x c h h2=>?_,I.ok.hd,I.ok.frames,.inl rfl,fun b hb=>?_,I.bs,Nat.le_trans I.ok.bsz I.sz,fun b o e hb=>?_,fun b hb hb'=>?_,I.stack,I.stkFree⟩
 ·rcases B.either h1 with⟨l1,m1⟩|e1<;>rcases B.either h2 with⟨l2,m2⟩|e2
  ·exact name_of_addr ap m1 m2
  ·exact absurd (Nat.lt_of_lt_of_le (lo _ _ e2) (Nat.le_trans hC (Nat.le_of_lt l1))) (Nat.lt_irrefl _)
  ·exact absurd (Nat.lt_of_lt_of_le (lo _ _ e1) (Nat.le_trans hC (Nat.le_of_lt l2))) (Nat.lt_irrefl _)
  ·exact I.ok.inj x y c e1 e2
 ·have hx:scope.names.lookup x=some .cell:=of_decide_eq_true h
  have h2':(cellsFrom (C+1) scope.names cl).lookup x=some c:=h2
  rw[cf_app]at h2'
  obtain⟨c',e⟩:=Option.isSome_iff_exists.mp (PySem.W.cellsFrom_some scope.names (C+1) [] (.inl hx))
  rcases lookup_app h2' with z|⟨z,_⟩
  ·have:=(cf_mem (PySem.mem_of_lookup z)).2
   show s.heap.objs.size<=c
   omega
  ·rw[z]at e;cases e
 ·obtain⟨o,e,_⟩:=ho b hb
  obtain⟨_,_,_,_,f4,_⟩:=hf b hb
  have hlt:=Heap.lt_size e
  refine⟨Nat.ne_of_lt (Nat.lt_of_lt_of_le hlt hC),fun x c h=>?_⟩
  rcases B.either h with⟨l,_⟩|e'
  ·exact fun z=>absurd (Nat.lt_of_lt_of_le hlt (Nat.le_trans hC (Nat.le_of_lt (z▸l)))) (Nat.lt_irrefl _)
  ·exact f4 x c e'
 ·obtain⟨_,_,_,f3,_⟩:=hf b hb
  rcases f3 with z|z
  ·exact I.ok.noex b o e z
  ·exact absurd (Nat.lt_of_lt_of_le (Heap.lt_size e) (Nat.le_trans I.ok.bsz z)) (Nat.lt_irrefl _)
 ·obtain⟨_,f1,f2,_⟩:=hf b hb
  rcases List.mem_cons.mp (I.stkSub b hb')with z|z
  ·exact f1 z
  ·exact f2 z
end
structure FunC(K:PySem.W.Frag)(x qual:Str)(st:Stmt)(f:Addr)(fd:FuncData)(c:Addr):Prop where
 ex:∃(oc:Value)(od:Option Addr)(kV doc pm:Value)(an:Option Addr)(ct:Value)(osl:Array (Option Value)),
  fd=PySem.W.fnOf x qual (defArgs st) (defBody st) (defScope st) .none kV doc pm an (.ref c) ct/\K.lookup f=some ⟨oc,od,.func fd,osl⟩/\PySem.W.codeIn K (.ref c) qual=true
section
variable{P:Program}{w:World}{K:PySem.W.Frag}{mg:Str->Option Value}{base:Heap}
theorem FunC.ok{x qual:Str}{st:Stmt}{f c:Addr}{fd:FuncData}{N ps:List Str}{k:Nat}{sp:Sp}(F:FunC K x qual st f fd c)(S:FnScope N ps (defScope st))(len:∀vs H Q E,sp vs H Q E->vs.length=ps.length)
  (hbody:∀(A:Around)(outer:List Env)(s:Shared)(H:Hp)(vs:List V)(Q:VK)(E:XK),Room k (A.deeper (envOfC qual (defScope st) s.heap.objs.size f (.ref c)))->sp vs H Q E->
   ∃t,PSs (cxOf CX0 P w K mg base N qual (defScope st) f (.ref c) A outer s H E).nox (defBody st) t/\t {nx:=fun _ H'=>Q .non H',rt:=Q} (start N vs) H):FnOk P w K mg base CX0 (k+1) f fd ps sp:=by
 obtain⟨oc,od,kV,doc,pm,an,ct,osl,rfl,lk,hcd⟩:=F.ex
 refine fn_of lk hcd S len fun A outer s H vs Q E hr hsp=>?_
 obtain⟨t,h,q⟩:=hbody A outer s H vs Q E hr hsp
 exact⟨t,h.nox,q⟩
end
theorem Gr.none{P:Addr}{pos:Pos}{qual:Str}{H H':Hp}(g:Gr P pos qual H H'){d:Addr}(h:H' d=Option.none):H d=Option.none:=by
 cases q:H d with
 |none=>rfl
 |some o=>
  by_cases hd:d=P
  ·subst hd
   rcases g.tab with t|⟨c',t,_⟩
   ·rw[h]at t;cases t
   ·rw[h]at t;cases t
  ·rw[g.keep d o q hd]at h;cases h
theorem Gr.new{P:Addr}{pos:Pos}{qual:Str}{H H':Hp}(g:Gr P pos qual H H'){d:Addr}{o:HO}(h:H' d=Option.none):Gr P pos qual H (upd H' d o):=g.same (same_new h)
theorem Gr.lst{P:Addr}{pos:Pos}{qual:Str}{H H':Hp}(g:Gr P pos qual H H'){d:Addr}{xs ys:List V}(h:H' d=some (.lst xs))(hn:H d=Option.none):Gr P pos qual H (upd H' d (.lst ys)):=by
 refine⟨fun b o e n=>by rw[upd_ne (ne_of_none e hn)];exact g.keep b o e n,?_⟩
 rcases g.tab with t|⟨c',t,u⟩
 ·exact .inl (by rw[upd_ne (ne_of t h fun z=>nomatch z)];exact t)
 ·exact .inr ⟨c',by rw[upd_ne (ne_of t h fun z=>nomatch z)];exact t,by rw[upd_ne (ne_of u h fun z=>nomatch z)];exact u⟩
def Tk(H H':Hp):Prop:=∀q xs,H q=some (.tup xs)->H' q=some (.tup xs)
theorem Tk.trans(a:Tk H H1)(b:Tk H1 H2):Tk H H2:=fun q c e=>b q c (a q c e)
theorem Same.tk{H H'}(s:Same H H'):Tk H H':=fun q _ e=>s q _ e
theorem Gr.tk{P:Addr}{pos:Pos}{qual:Str}{H H':Hp}(g:Gr P pos qual H H')(t:TabI P pos qual H):Tk H H':=fun q xs e=>g.keep q _ e fun z=>by
 subst z
 rcases t with t|⟨c',t,_⟩
 ·rw[e]at t;cases t
 ·rw[e]at t;cases t
end L2
set_option maxHeartbeats 1000000
namespace L2
open PySem PySem.Spec PyProof.Rows PySem.SeqAt
section
variable{X:Cx}
theorem Sam.up{K:PySem.W.Frag}{H:Hp}:∀{d:Nat}{x y:V},Sam K H d x y->Sam K H (d+1) x y
 |0,x,y,h=> .inl h
 |d+1,x,y,h=>by
  rcases h with h|⟨a,b,xs,ys,ea,eb,h,hl,hk⟩
  ·exact .inl h
  ·exact .inr ⟨a,b,xs,ys,ea,eb,h,hl,fun i u v h1 h2=>(hk i u v h1 h2).up⟩
theorem Sam.mono{K:PySem.W.Frag}{H:Hp}{d e:Nat}{x y:V}(h:Sam K H d x y)(hde:d<=e):Sam K H e x y:=by
 obtain⟨n,rfl⟩:=Nat.exists_eq_add_of_le hde
 clear hde
 induction n with
 |zero=>exact h
 |succ n ih=>exact ih.up
theorem Sam.tup{K:PySem.W.Frag}{H:Hp}{d:Nat}{a b:Addr}{xs ys:List V}(ha:H a=some (.tup xs))(hb:H b=some (.tup ys))(hl:xs.length=ys.length)(hk:∀(i:Nat) u v,xs[i]?=some u->ys[i]?=some v->Sam K H d u v):Sam K H (d+1) (.ref a) (.ref b):=
 .inr ⟨a,b,xs,ys,rfl,rfl,.inl ⟨SqT.of ha,SqT.of hb⟩,hl,hk⟩
end
end L2
set_option maxHeartbeats 1000000
namespace L2
open PySem PySem.Spec PyProof.Rows PySem.SeqAt
section
variable{X:Cx}
end
end L2
namespace RX
open PySem PySem.Spec PyProof.Rows L2 PySem.W
def tMethX(C:Addr)(m:Str)(sp:Sp)(Ex:L2.St->XK)(ta:TE)(t:TA):TE:=fun σ H Q=>ta σ H fun x H1=>∃a dx fs,x= .ref a/\H1 a=some (.ins C dx fs)/\fs.lookup m=none/\t σ H1 fun vs H2=>sp (x::vs) H2 Q (Ex σ)
section
variable{X:Cx}{k:Nat}{f C:Addr}{fd:FuncData}{ps:List Str}{sp:Sp}{Ex:L2.St->XK}{m:Str}{pos apos:Pos}{e o:Expr}{es:List Expr}{ta:TE}{t:TA}
theorem pe_methX{pl:Sem Bool}(he:PE X o ta)(c:L2.Cls X.K C)(hm:L2.Meth X.K C m f)(F:FnOk X.prog X.w X.K X.mg X.base (CXe X.prog X.w) k f fd ps sp)(hr:Room k X.A)(hb:L2.Binds X.K fd ps [])(hx:Takes X Ex)(ha:PA X (e::es) t)
  (hst:starEach (e::es) X.env=(false,eval e X.env)::starEach es X.env:=by rfl)(hpl:(backTo pos (starEach es X.env)).any (·.1)=false:=by rfl)
  (ht:eval (.Call (.Attribute o m apos) (e::es) [] pos) X.env=(do
   let ov<-eval o X.env
   standAt apos.atName
   let(f,first)<-holding [ov] (getMethod ov m pl)
   callWith pos f first (backTo pos (starEach (e::es) X.env)) (backToKw pos (keywordEach [] X.env))):=by rfl):
  PE X (.Call (.Attribute o m apos) (e::es) [] pos) (tMethX C m sp Ex ta t):=by
 intro pins s σ H Q I h
 refine PySem.W.methodCall_KW (pl:=pl) (thn (he pins s σ H _ I h) fun u s1 xq1=>?_) ht
 obtain⟨x,H1,I1,rx,a,dx,fs,ex,ea,l,q⟩:=xq1
 subst ex
 obtain rfl:u=Value.ref a:=rx
 refine getmeth_ok I1 ea c hm l ?_
 refine PySem.W.callWith_K (first:=[.ref a]) (h₀:=X.base) I.ok.mod.kin hm.kp (thn (ha pos pins s1 σ H1 _ I1 q) fun us s2⟨vs,H2,I2,r,q2⟩=>⟨I2.kIn,?_⟩) hst hpl
 have r2:Vals (.ref a::vs) (.ref a::us):= .cons rfl r
 have hl:(Value.ref a::us).length=ps.length:=by rw[<-r2.length];exact F.len _ _ _ _ q2
 have hb':=hb s2 (.ref a::us) I2.kIn (by rw[List.append_nil];exact hl)
 rw[List.append_nil]at hb'
 refine wpAny_call (codeAny_mono (F.run X.A X.stack s2 H2 ⟨.ref a::us,[]⟩ (.ref a::us) (.ref a::vs) Q (Ex σ) hr I2.env0 hb' r2 q2) fun r s' hq=>?_)
 cases r with
 |error e=>exact hx pins σ H2 s2 e s' I2 hq
 |ok fl=>
  cases fl with
  |ret u=>exact I2.after hq
  |next=>exact False.elim hq
  |brk=>exact False.elim hq
  |cont=>exact False.elim hq
end
end RX
set_option maxHeartbeats 1000000
namespace L2
open PySem PySem.Spec PyProof.Rows
section
variable{X:Cx}
def fromPairsK(ps:List (Key×V)):List (Key×V):=ps.foldl (fun acc p=>putK acc p.1 p.2) []
theorem fromPairsK_len(ps:List (Key×V)):(fromPairsK ps).length<=ps.length:=by
 have key:∀(ps acc:List (Key×V)),(ps.foldl (fun acc p=>putK acc p.1 p.2) acc).length<=acc.length+ps.length:=by
  intro ps
  induction ps with
  |nil=>intro acc;exact Nat.le_refl _
  |cons p ps ih=>
   intro acc
   have h1:=ih (putK acc p.1 p.2)
   have h2:=length_putK acc p.1 p.2
   rw[List.length_cons]
   show(ps.foldl (fun acc p=>putK acc p.1 p.2) (putK acc p.1 p.2)).length<=_
   omega
 have:=key ps []
 simpa[fromPairsK]using this
theorem fromPairsK_kv{ps:List (Key×V)}{kv:Nat->Key×Value}(h:∀i,(hi:i<ps.length)->(kv i).1=ps[i].1/\RelV ps[i].2 (kv i).2):∀n,n<=ps.length->KV (fromPairsK (ps.take n)) (DictL.upTo kv n)
 |0,_=> .nil
 |n+1,hn=>by
  obtain⟨h1,h2⟩:=h n (by assumption)
  rw[List.take_add_one,List.getElem?_eq_getElem (by trivial),DictL.upTo_succ]
  unfold fromPairsK
  rw[List.foldl_append]
  have ih:=fromPairsK_kv h n (by omega)
  show KV (putK (fromPairsK (ps.take n)) ps[n].1 ps[n].2) _
  rw[h1]
  exact ih.put _ h2
theorem fromPairsK_nd{ps:List (Key×V)}(hn:(ps.map (·.1)).Nodup):fromPairsK ps=ps:=by
 have key:∀(ps acc:List (Key×V)),((acc++ps).map (·.1)).Nodup->ps.foldl (fun acc p=>putK acc p.1 p.2) acc=acc++ps:=by
  intro ps
  induction ps with
  |nil=>intro acc _;rw[List.append_nil];rfl
  |cons p ps ih=>
   intro acc h
   show ps.foldl (fun acc p=>putK acc p.1 p.2) (putK acc p.1 p.2)=_
   have hv:valV acc p.1=none:=by
    cases z:valV acc p.1 with
    |none=>rfl
    |some v=>
     have:=valV_in z
     rw[List.map_append,List.nodup_append]at h
     exact absurd rfl (h.2.2 _ this _ (.head _))
   rw[putK_new _ hv,ih]
   ·rw[List.append_assoc];rfl
   ·rw[List.append_assoc];exact h
 exact key ps [] hn
end
end L2
set_option maxHeartbeats 1000000
namespace PySem.W
open PySem PySem.Spec PySem.Calls PyProof.Rows PyProof.V
section
variable{prog:Program}{w:World}{A:Around}{E:Value->Shared->Prop}{s:Shared}{r d:Addr}{n:Nat}{P:Nat->Value->Prop}{OK:Heap->Prop}
theorem meets_tuple_new_vals(K:KdlSrc prog w "dict_values" r d n P OK)(hn:n<=sizeLine):
  MeetsIn prog w (Builtin.«tuple.__new__» ⟨[.type "tuple",.ref r],[]⟩)
   (fun A R s=>A.handled=none/\OK s.heap/\∀(h':Heap)(tk:Nat)(acc:Array Value),(∀b o,s.heap.get? b=some o->h'.get? b=some o)->ItemsOf P acc n->
    R (.ok (.ret (.ref h'.objs.size))) {s with heap:=h'.push {cls:= .type "tuple",data:= .seq acc},toks:=tk}):=
 MeetsIn.of_wp fun A R s h=>by
  obtain⟨hh,hok,h⟩:=h
  have hsub:=sub_tuple_self
  have hinit:=init_tuple_lookup
  have hmh:=madeHere_tuple
  have hT:s.TypeIs (.ref r) "dict_values":=K.type s hok
  have hh1:A.in1.handled=none:=hh
  wp_walk using wpAny_typeOf hT,dcollect K hh1 hok hn
  intro h' tk acc hk hsz hacc
  show wpAny _ _ (Builtin.Tuple.tupleExact acc.toList.toArray>>=fun v=>ret v) _ _ _
  unfold Builtin.Tuple.tupleExact
  refine wpAny_bind (wpAny_newObj_type ?_ (show acc.toList.toArray.size<=sizeLine by simp only[Array.toArray_toList];rw[hacc.1];exact hn))
  refine wpAny_pure ⟨_,rfl,?_⟩
  have e:acc.toList.toArray=acc:=by simp
  rw[e]
  exact h h' tk acc hk hacc
theorem call_tuple_vals{Q:Value->Shared->Prop}(K:KdlSrc prog w "dict_values" r d n P OK)(hh:A.handled=none)(hok:OK s.heap)(hn:n<=sizeLine)
  (h:∀(h':Heap)(tk:Nat)(acc:Array Value),(∀b o,s.heap.get? b=some o->h'.get? b=some o)->ItemsOf P acc n->Q (.ref h'.objs.size) {s with heap:=h'.push {cls:= .type "tuple",data:= .seq acc},toks:=tk}):
  wpAny (model prog w) A (call (.type "tuple") [.ref r]) Q E s:=
 callType_newIn PySem.F.called_tuple (by decide) (PySem.F.typeCall_tuple_1 _) (PySem.F.newCall_tuple_1 _) (fun obj=>PySem.F.args_object_init_2 obj _) PySem.F.entry_tuple_new
  (meets_tuple_new_vals K hn) ⟨hh,hok,fun h' tk acc hk hacc=>⟨⟨_,Heap.get?_push_size _ rfl,rfl⟩,h h' tk acc hk hacc⟩⟩
end
end PySem.W
namespace L2
open PySem PySem.Spec PyProof.Rows
section
variable{X:Cx}
theorem paired_at{α β:Type}{F:α->β->Prop}{l₁:List α}{l₂:List β}(r:Paired F l₁ l₂):∀{i:Nat}{a:α}{b:β},l₁[i]?=some a->l₂[i]?=some b->F a b:=by
 induction r with
 |nil=>intro i a b h;cases h
 |cons h _ ih=>
  intro i a b h1 h2
  cases i with
  |zero=>cases h1;cases h2;exact h
  |succ i=>exact ih h1 h2
def ValE(v d:Addr):HO:= .ext fun h=>h.IsValuesView v d
inductive rVals(x:V)(vs:List V)(H:Hp)(Q:VK):Prop
 |mk (d kvs:_) (_:x= .ref d) (_:vs=[]) (_:H d=some (.dK kvs)) (_:∀p,H p=none->Q (.ref p) (upd H p (ValE p d)))
theorem mt_values:MtR X "dict.values" rVals:=by
 intro pins s σ H x xs v us Q I rx r h
 obtain⟨d,kvs,rfl,rfl,hd,q⟩:=h
 cases r
 cases(show v=Value.ref d from rx)
 obtain⟨z,lo,vs,rel,dd⟩:=dk_of I.hok hd
 refine call_meetsIn PySem.F.slot_dict_values dd.typeIs PySem.F.entry_dict_values (PySem.F.args_dict_values_1 _) (meets_dict_values (mixKind X.prog X.w) d lo) ⟨⟨vs,dd⟩,?_⟩
 refine⟨.ref s.heap.objs.size,_,I.laid (t':=s.toks) (o:=ValE s.heap.objs.size d) (fun b o e=>Heap.get?_push_of_some _ e) (Nat.le_refl _) ?_,rfl,q _ (I.hok.fresh (Nat.le_refl _))⟩
 exact⟨⟨_,Heap.get?_push_size _ rfl,rfl,rfl⟩,⟨_,Heap.get?_push_size _ rfl⟩,fun h1 h2⟨o,ho,r⟩ k=>⟨o,k o ho,r⟩⟩
inductive rTupV(xs:List V)(H:Hp)(Q:VK):Prop
 |mk (v d:_) (kvs:List (Key×V)) (_:xs=[.ref v]) (_:H v=some (ValE v d)) (_:H d=some (.dK kvs)) (_:kvs.length<=100000) (_:∀p H',Same H H'->H' p=some (.tup (kvs.map (·.2)))->Q (.ref p) H')
theorem call_tupleV{k:Nat}(hr:Room k X.A):CallR X (.type "tuple") rTupV:=by
 intro pins s σ H xs us Q I r h
 obtain⟨v,d,kvs,rfl,hv,hd,hn,q⟩:=h
 obtain⟨u,rfl,rx⟩:=vals1 r
 cases(show u=Value.ref v from rx)
 obtain⟨z,lo,vs,rel,dd⟩:=dk_of I.hok hd
 have hvl:kvs.length=vs.length:=Paired.length rel
 obtain⟨ep,hat⟩:=dd.dictAt
 refine PySem.W.call_tuple_vals (PySem.W.kdl_values (knd:=mixKind X.prog X.w) (kvs:=vs) (ep:=ep)) hr.hd ⟨(I.hok v _ hv).1,hat⟩ (leMil (by omega)) fun h' tk acc hk hacc=>?_
 have I1:Inv X pins σ H {s with heap:=h',toks:=tk}:=I.kept (t':=tk) hk
 have hlen:acc.toList.length=(kvs.map (·.2)).length:=by rw[Array.length_toList,List.length_map,hacc.1,hvl]
 have hv:Vals (kvs.map (·.2)) acc.toList:=by
  refine vals_by _ _ hlen fun i x u hx hu=>?_
  obtain⟨k',e⟩:=hacc.2 i u (by rw[<-Array.getElem?_toList];exact hu)
  rw[List.getElem?_map]at hx
  cases hq:kvs[i]? with
  |none=>rw[hq]at hx;cases hx
  |some kv=>
   rw[hq]at hx
   cases hx
   exact(paired_at rel hq e).2
 refine⟨.ref h'.objs.size,_,Inv.laid (s:={s with heap:=h',toks:=tk}) I1 (t':=tk) (o:= .tup (kvs.map (·.2))) (fun b o e=>Heap.get?_push_of_some _ e) (Nat.le_refl _) ?_,rfl,q _ _ (same_add (I1.hok.fresh (Nat.le_refl _))) upd_same⟩
 refine⟨by rw[List.length_map];exact leMil hn,acc.toList,hv,?_⟩
 have:=IsTup.new h' acc
 rw[Array.toArray_toList]
 exact this
theorem Inv.thaw2{pins:List (Addr×Obj)}{σ σ':St}{H H':Hp}{s s':Shared}{d:Addr}{ob:Obj}{kvs:List (Key×V)}(I0:Inv X pins σ H s)(hd:H d=some (.dK kvs))(I:Inv X pins σ' H' s')(hf:H' d=some (.frz ob (.dK kvs))):Inv X pins σ' (upd H' d (.dK kvs)) s':=by
 have ne:∀c u,H' c=some u->(∀o v,u≠.frz o v)->upd H' d (.dK kvs) c=some u:=fun c u q n=>by
  rw[upd_ne (fun z=>by rw[z,hf]at q;exact n _ _ (Option.some.inj q).symm)];exact q
 have no:∀c,H' c=none->upd H' d (.dK kvs) c=none:=fun c q=>by
  rw[upd_ne (fun z=>by rw[z,hf]at q;cases q)];exact q
 refine⟨I.ok,I.os,I.bare,⟨I.base.keep,I.base.slot,fun c o q n hx=>no c (I.base.free c o q n hx),I.base.there,fun c xs q=>ne c _ (I.base.tups c xs q) fun o v=>by simp,fun c o u q=>?_,fun c ps q=>?_⟩,I.loc,I.cell,no _ I.free,fun x c q=>no _ (I.freeC x c q),fun p hp=>?_,fun c u q=>?_,I.len⟩
 ·rw[upd_ne (fun z=>by have:=I0.base.frzs c o u q;rw[z,hd]at this;cases this)]
  exact I.base.frzs c o u q
 ·obtain⟨more,z⟩:=I.base.tbls c ps q
  exact⟨more,ne c _ z fun o v=>by simp⟩
 ·obtain⟨p1,p2,p3⟩:=I.pin p hp
  exact⟨p1,no _ p2,p3⟩
 ·have st:ObjOk X.prog X.w H' s'.heap c u:=by
   by_cases hc:c=d
   ·subst hc;rw[upd_same]at q;cases q
    exact(I.hok c _ hf).2
   ·rw[upd_ne hc]at q;exact I.hok c u q
  exact st.stay (fun _ _ _ r=>r) (fun e r=>ne e _ r fun o v=>by simp) fun e xs r=>ne e _ r fun o v=>by simp
def HeldD(ob:Obj)(n ep:Nat):Prop:=∃es:Array DictEntry,ob.data= .dict es ep/\es.size=n
theorem held_of{pins:List (Addr×Obj)}{σ:St}{H:Hp}{s:Shared}{d:Addr}{kvs:List (Key×V)}(I:Inv X pins σ H s)(hd:H d=some (.dK kvs)):∃ob ep,s.heap.get? d=some ob/\HeldD ob kvs.length ep:=by
 obtain⟨z,lo,vs,rel,o,es,ep,ho,hx,hdd,hk,hp,hn⟩:=dk_of I.hok hd
 exact⟨o,ep,ho,es,hdd,by rw[rel.length,<-hp.length];simp⟩
inductive tFrz(t:TE)(σ:St)(H:Hp)(Q:VK):Prop
 |mk (d kvs:_) (_:H d=some (.dK kvs)) (_:∀ob ep,HeldD ob kvs.length ep->t σ (upd H d (.frz ob (.dK kvs))) fun v H'=>H' d=some (.frz ob (.dK kvs))/\Q v (upd H' d (.dK kvs)))
theorem pe_frz{e:Expr}{t:TE}(h:PE X e t):PE X e (tFrz t):=by
 intro pins s σ H Q I q
 obtain⟨d,kvs,hd,q⟩:=q
 obtain⟨ob,ep,ho,hh⟩:=held_of I hd
 exact thn (h pins s σ _ _ (I.freeze hd ho) (q ob ep hh)) fun v s1⟨x,H1,I1,r1,f1,q1⟩=>⟨x,_,I.thaw2 hd I1 f1,r1,q1⟩
def sFrz(t:TS):TS:=fun D σ H=>∃d kvs,H d=some (.dK kvs)/\∀ob ep,HeldD ob kvs.length ep->t {nx:=fun σ' H'=>H' d=some (.frz ob (.dK kvs))/\D.nx σ' (upd H' d (.dK kvs)),rt:=fun _ _=>False} σ (upd H d (.frz ob (.dK kvs)))
theorem ps_frz{st:Stmt}{t:TS}(h:PS X st t):PS X st (sFrz t):=by
 intro pins s σ H D I q
 obtain⟨d,kvs,hd,q⟩:=q
 obtain⟨ob,ep,ho,hh⟩:=held_of I hd
 refine thn (h pins s σ _ _ (I.freeze hd ho) (q ob ep hh)) fun f s1 z=>?_
 cases f with
 |next=>obtain⟨σ1,H1,I1,f1,q1⟩:=z;exact⟨σ1,_,I.thaw2 hd I1 f1,q1⟩
 |brk=>obtain⟨_,_,_,z⟩:=z;exact z.elim
 |cont=>obtain⟨_,_,_,z⟩:=z;exact z.elim
 |ret u=>obtain⟨_,_,_,_,_,z⟩:=z;exact z.elim
end
end L2
set_option maxHeartbeats 1000000
namespace L2
open PySem PySem.Spec PyProof.Rows
section
variable{X:Cx}
theorem dictAt_held{pins:List (Addr×Obj)}{σ:St}{H:Hp}{s:Shared}{d:Addr}{ob:Obj}{kvs:List (Key×V)}{n ep:Nat}(I:Inv X pins σ H s)(hf:H d=some (.frz ob (.dK kvs)))(hh:HeldD ob n ep):
  ∃vs,KV kvs vs/\vs.length=n/\(d==sysModules)=false/\s.heap.DictAt (mixKind X.prog X.w) d vs ep:=by
 obtain⟨es,hd,hn⟩:=hh
 obtain⟨ho,_,lo,vs,rel,o,es',ep',ho',hx,hd',hk,hp,hnd⟩:=I.hok d _ hf
 rw[ho]at ho'
 cases ho'
 rw[hd]at hd'
 cases hd'
 exact⟨vs,rel,by rw[<-hn,<-hp.length];simp,lo,ob,es,ho,hx,hd,hk,hp,hnd⟩
def ItI(d:Addr)(n ep:Nat):It:=
 ⟨fun i H=>∃ob kvs p,H d=some (.frz ob (.dK kvs))/\HeldD ob n ep/\kvs[i]?=some p,
  fun i H x H'=>∃T k v,x= .ref T/\H T=none/\H'=upd H T (.tup [kV k,v])/\∀ob kvs,H d=some (.frz ob (.dK kvs))->kvs[i]?=some (k,v),
  fun i H=>∃ob kvs,H d=some (.frz ob (.dK kvs))/\HeldD ob n ep/\kvs.length<=i⟩
theorem turn_items{P:Program}{w:World}{K:PySem.W.Frag}{elts:List Expr}{x1:Nat}{pos:Pos}(d it:Addr)(n ep:Nat):Turn P w K (.Tuple elts x1 pos) (ItI d n ep) [it] it (fun i h=>∃ok ov,IsItemIter h it d i n ep ok ov)where
 mem:=by simp
 obj:=fun i h st b hb=>by
  obtain⟨ok,ov,e⟩:=st
  have z:b=it:=by simpa using hb
  subst z
  exact⟨_,e,fun v z=>nomatch z⟩
 keep:=fun i h h' st k=>let⟨ok,ov,e⟩:=st;⟨ok,ov,k it (by simp) _ e⟩
 item:=by
  intro X hP hw hK hc i pins s σ H E I hf st hg
  subst hP hw hK
  obtain⟨ob,kvs,p,hfz,hh,hp⟩:=hg
  obtain⟨ok,ov,st⟩:=st
  obtain⟨vs,rel,hn,lo,hat⟩:=dictAt_held I hfz hh
  subst hn
  have hi:i<vs.length:=by rw[<-rel.length];exact(List.getElem?_eq_some_iff.mp hp).1
  have hv:vs[i]?=some (vs[i].1,vs[i].2):=List.getElem?_eq_getElem hi
  obtain⟨r1,r2⟩:=paired_at rel hp hv
  obtain⟨f0,f1,f2,f3,f4,f5⟩:=hf it (by simp)
  refine wpAny_pyNext_items_item st hat hv fun key h' hk a1 a2 a3 hkp=>?_
  have I1:Inv X pins σ H {s with heap:=h'}:=I.turned (t':=s.toks) hkp f0 f1 f3 f4 f5
  refine⟨_,rfl,wpAny_letOwnedTupleGo_items (s:={s with heap:=h'}) a1 fun h2 b1 sb=>?_⟩
  have I2:Inv X pins σ H {s with heap:=h2}:=Inv.turned (s:={s with heap:=h'}) I1 (t':=s.toks) (fun b o hb e=>(sb.2 b hb).trans e) f0 f1 f3 f4 f5
  have hnT:H s.heap.objs.size=none:=I.hok.fresh (Nat.le_refl _)
  have fT:FpOk X pins H s.heap.objs.size:=I.fpOk (Nat.le_refl _) hnT
  have hzT:s.heap.objs.size≠it:=Nat.ne_of_gt (Heap.lt_size st)
  have hT2:h2.get? s.heap.objs.size=some {cls:= .type "tuple",data:= .seq #[key,vs[i].2]}:=(sb.2 _ hzT).trans a2
  refine⟨.ref s.heap.objs.size,upd H s.heap.objs.size (.tup [kV p.1,p.2]),I2.track fT I.sz ⟨le1000 rfl,[key,vs[i].2],.cons (by rw[r1];exact key_rel hk) (.cons r2 .nil),⟨_,hT2,rfl,_,rfl⟩⟩,rfl,
   ⟨_,p.1,p.2,rfl,hnT,rfl,fun ob' kvs' hz=>by rw[hfz]at hz;cases hz;exact hp⟩,⟨_,_,b1⟩,fun b hb=>?_⟩
  have z:b=it:=by simpa using hb
  rw[z,upd_ne (Ne.symm hzT)]
  exact f0
 done:=by
  intro X hP hw hK hc i pins s σ H E I hf st hg
  subst hP hw hK
  obtain⟨ob,kvs,hfz,hh,hp⟩:=hg
  obtain⟨ok,ov,st⟩:=st
  obtain⟨vs,rel,hn,lo,hat⟩:=dictAt_held I hfz hh
  subst hn
  have hl:=rel.length
  obtain⟨f0,f1,f2,f3,f4,f5⟩:=hf it (by simp)
  exact wpAny_pyNext_items_end (I.ok.hd hc) st hat (List.getElem?_eq_none (by omega)) fun h' eb=>⟨rfl,I.turned (t':=s.toks) (fun b o hb e=>eb b o hb e) f0 f1 f3 f4 f5⟩
 self:=fun _ _ _ _ _ st h=>by
  obtain⟨ok,ov,st⟩:=st
  exact PySem.W.kcp_self st h
def iItems(to:TE):TI:=fun σ H R=>to σ H fun x H1=>∃d ob kvs ep,x= .ref d/\H1 d=some (.frz ob (.dK kvs))/\HeldD ob kvs.length ep/\R (ItI d kvs.length ep) H1
theorem pi_items{elts:List Expr}{x1:Nat}{tpos:Pos}{o:Expr}{to:TE}{apos cpos:Pos}(ho:PE X o to)
  (hbase:attributeBase o "items" X.env (eval o X.env)=eval o X.env:=by rfl)(hline:(apos.endLine==cpos.line)=true:=by rfl):PI X (.Tuple elts x1 tpos) (.Call (.Attribute o "items" apos) [] [] cpos) (iItems to):=by
 intro pins s σ H R I h
 refine wpAny_Call_method0_late hbase hline (thn (ho pins s σ H _ I h) fun v s1 xq1=>?_)
 obtain⟨x,H1,I1,rx,q1⟩:=xq1
 obtain⟨d,ob,kvs,ep,rfl,hf,hh,q⟩:=q1
 obtain rfl:v=Value.ref d:=rx
 obtain⟨t1,t2,_⟩:=isD_at I1 (.inl ⟨kvs,.inr ⟨ob,hf⟩⟩)
 obtain⟨vs,rel,hn,lo,hat⟩:=dictAt_held I1 hf hh
 refine⟨"dict","dict.items",PySem.F.plainAttrs_dict,PySem.F.slot_dict_items,PySem.F.type_dict_items,t1,t2,Calls.callWith_builtin rfl (PySem.evalArgs_none ?_)⟩
 refine call_meetsIn PySem.F.slot_dict_items t1 PySem.F.entry_dict_items (PySem.F.args_dict_items_1 _) (meets_dict_items (mixKind X.prog X.w) d lo) ⟨⟨vs,hat.dictOf⟩,?_⟩
 refine wpAny_pyIter_items (knd:=mixKind X.prog X.w) (s:={s1 with heap:=s1.heap.push _}) ⟨_,Heap.get?_push_size _ rfl,rfl,rfl⟩ (hat.push _) ?_
 have up:∀b o,s1.heap.get? b=some o->((s1.heap.push {cls:= .type "dict_items",data:= .fields #[.ref d]}).push {cls:= .type "dict_itemiterator",data:= .fields #[.none,.bool false,.ref d,.int 0 0,.int vs.length 0,.int ep 0,.none,.none]}).get? b=some o:=fun b o e=>Heap.get?_push_of_some _ (Heap.get?_push_of_some _ e)
 have hle:s1.heap.objs.size<=(s1.heap.push {cls:= .type "dict_items",data:= .fields #[.ref d]}).objs.size:=by rw[Heap.size_push];simp
 refine⟨_,[_],_,_,H1,rfl,I1.kept (t':=s1.toks) up,turn_items d _ kvs.length ep,⟨.none,.none,?_⟩,fun b hb=>?_,q⟩
 ·rw[<-hn];exact Heap.get?_push_size _ rfl
 ·rw[List.mem_singleton.mp hb]
  exact I1.fpOk hle (I1.hok.fresh hle)
def tLCI(bs:List (Option Nat))(to:TE)(g:TG)(tt:TT)(te:TE):TE:=fun σ H Q=>to σ H fun x H1=>∃d ob kvs ep,x= .ref d/\H1 d=some (.frz ob (.dK kvs))/\HeldD ob kvs.length ep/\kvs.length<=100000/\∃Pv:Nat->List V->St->Hp->Prop,Pv 0 [] (bst bs σ) H1/\
 (∀i zs σ H,i<=kvs.length->Pv i zs σ H->H d=some (.frz ob (.dK kvs))/\zs.length<=i)/\
 (∀i k v zs σ H,kvs[i]?=some (k,v)->Pv i zs σ H->∀T H2,Same H H2->H2 T=some (.tup [kV k,v])->g (.ref T) σ H2 fun σ3 H3=>tt σ3 H3 fun b H4=>if b=true then te σ3 H4 fun v H5=>Pv (i+1) (zs++[v]) σ3 H5 else Pv (i+1) zs σ3 H4)/\
 ∀zs σ H,Pv kvs.length zs σ H->∀p H',Same H H'->H' p=some (.lst zs)->Q (.ref p) H'
theorem pe_lcI{scope:Scope}{cl:List (Str×Addr)}{N:List Str}{bs:List (Option Nat)}{elts:List Expr}{x1:Nat}{tpos:Pos}{o elt:Expr}{ifs:List Expr}{apos cpos pos:Pos}{to:TE}{g:TG}{tt:TT}{te:TE}(B:Blk X scope cl N bs)(hc:X.calm=true)
  (ho:PE X o to)(hm:MonoE to)(hg:∀C fp s H,PG (cxBlk X scope cl C N fp s H) (.Tuple elts x1 tpos) g) (ht:∀C fp s H,PTs (cxBlk X scope cl C N fp s H) ifs tt) (he:∀C fp s H,PE (cxBlk X scope cl C N fp s H) elt te)
  (hbase:attributeBase o "items" X.env (eval o X.env)=eval o X.env:=by rfl) (hline:(apos.endLine==cpos.line)=true:=by rfl)
  (hs:∀x,foldedSetIterable (.Call (.Attribute o "items" apos) [] [] cpos) X.env x=pure x:=by intro _;rfl):PE X (.ListComp elt [⟨.Tuple elts x1 tpos,.Call (.Attribute o "items" apos) [] [] cpos,ifs,0⟩] scope pos) (tLCI bs to g tt te):=by
 intro pins s σ H Q I h
 refine @pe_lc X scope cl N bs _ _ elt ifs pos (iItems to) g tt te B hc (@pi_items X elts x1 tpos o to apos cpos ho hbase hline) hg ht he hs pins s σ H Q I ?_
 refine hm σ H _ _ (fun x H1 h=>?_) h
 obtain⟨d,ob,kvs,ep,e,hf,hh,hz,Pv,p0,pl,ps,pd⟩:=h
 refine⟨d,ob,kvs,ep,e,hf,hh,fun i m zs σ H=>m=kvs.length-i/\i<=kvs.length/\Pv i zs σ H,⟨kvs.length,by simp,Nat.zero_le _,p0⟩,?_⟩
 rintro i m zs σ H ⟨rfl,hi,pv'⟩
 obtain⟨q,ql⟩:=pl i zs σ H hi pv'
 have hz':=leMil hz
 by_cases hlt:i<kvs.length
 ·refine .inr ⟨⟨ob,kvs,kvs[i],q,hh,by simp[hlt]⟩,by omega,Pv (i+1),fun zs σ' H' p'=>⟨kvs.length-(i+1),by omega,rfl,hlt,p'⟩,fun x H' y=>?_⟩
  obtain⟨T,k,v,rfl,hT,rfl,hu⟩:=y
  exact ps i k v zs σ H (hu ob kvs q) pv' T _ (same_add hT) upd_same
 ·have e:i=kvs.length:=by omega
  subst e
  exact .inl ⟨⟨ob,kvs,q,hh,Nat.le_refl _⟩,by omega,fun p hpn=>pd zs σ H pv' p _ (same_add hpn) upd_same⟩
def iZipD(K:PySem.W.Frag)(ta:TA):TI:=fun σ H R=>ta σ H fun vs H1=>∃a c ob kvs ep,vs=[.ref a,.ref c]/\H1 a=some (.frz ob (.dK kvs))/\HeldD ob kvs.length ep/\(∃ys,SqT K H1 c ys)/\R (ItG (.d kvs.length ep) .t K a c) H1
theorem pi_zipD{elts:List Expr}{x1:Nat}{tpos:Pos}{a b:Expr}{ta:TA}{p pos:Pos}(hg:Gl X "zip")(hm:X.mg "zip"=none)(ha:PA X [a,b] ta)(hpl:plainE a=true)(hpl2:plainE b=true):PI X (.Tuple elts x1 tpos) (.Call (.Name "zip" p) [a,b] [] pos) (iZipD X.K ta):=by
 intro pins s σ H R I h
 refine Call_ (ld_blt I hg hm boot_zip (PyProof.Rows.callWith_type1 (thn (ha pos pins s σ H _ I h) fun us s1 xq1=>?_) (star_cons hpl) (star_any (by simp[hpl2]))))
 obtain⟨vs,H1,I1,r1,q1⟩:=xq1
 obtain⟨a',c',ob,kvs,ep,e,hfz,⟨es,hd,hn⟩,⟨ys,hqc⟩,q⟩:=q1
 subst e
 obtain⟨u,u',rfl,ru,ru'⟩:=vals2 r1
 cases(show u=Value.ref a' from ru)
 cases(show u'=Value.ref c' from ru')
 obtain⟨its,rv,pt⟩:=I1.sqz (b:= .d kvs.length ep) (xs:=kvs.map fun p=>kV p.1) ⟨ob,kvs,es,hfz,hd,hn,rfl⟩
 obtain⟨jts,rw',pl⟩:=I1.sqz (b:= .t) hqc
 have la:=pt.lt
 have lc:=pl.lt
 refine call_zipG pt pl fun h' hz hTI hTO h1 h2 hsz hk=>?_
 have I2:Inv X pins σ H1 {s1 with heap:=h'}:=I1.kept (t':=s1.toks) hk
 refine wpAny_pyIter_zip (s:={s1 with heap:=h'}) hz ?_
 refine⟨s1.heap.objs.size+4,[s1.heap.objs.size+4,s1.heap.objs.size+2,s1.heap.objs.size+3,s1.heap.objs.size,s1.heap.objs.size+1],_,_,H1,rfl,I2,
  turn_zip3 _ _ _ _ _ a' c' (zipApart_new la lc),⟨hz,hTI,⟨_,_,hTO⟩,h1,h2⟩,fun b hb=>?_,q⟩
 have hle:s1.heap.objs.size<=b:=by
  simp only[List.mem_cons,List.not_mem_nil,or_false]at hb
  rcases hb with rfl|rfl|rfl|rfl|rfl<;>first|exact Nat.le_add_right _ _|exact Nat.le_refl _
 exact I1.fpOk hle (I1.hok.fresh hle)
def tLCZD(K:PySem.W.Frag)(bs:List (Option Nat))(ta:TA)(g:TG)(tt:TT)(te:TE):TE:=fun σ H Q=>ta σ H fun vs H1=>∃a c ob kvs ep ys,vs=[.ref a,.ref c]/\H1 a=some (.frz ob (.dK kvs))/\HeldD ob kvs.length ep/\SqT K H1 c ys/\kvs.length=ys.length/\ys.length<=100000/\∃Pv:Nat->List V->St->Hp->Prop,Pv 0 [] (bst bs σ) H1/\
 (∀i zs σ H,i<=ys.length->Pv i zs σ H->H a=some (.frz ob (.dK kvs))/\SqT K H c ys/\zs.length<=i)/\
 (∀(i:Nat) k x y zs σ H,kvs[i]?=some (k,x)->ys[i]?=some y->Pv i zs σ H->∀T H2,Same H H2->H2 T=some (.tup [kV k,y])->g (.ref T) σ H2 fun σ3 H3=>tt σ3 H3 fun b H4=>if b=true then te σ3 H4 fun v H5=>Pv (i+1) (zs++[v]) σ3 H5 else Pv (i+1) zs σ3 H4)/\
 ∀zs σ H,Pv ys.length zs σ H->∀p,H p=none->Q (.ref p) (upd H p (.lst zs))
theorem ps_lcZD{scope:Scope}{cl:List (Str×Addr)}{N:List Str}{bs:List (Option Nat)}{elts:List Expr}{x1:Nat}{tpos:Pos}{a b elt:Expr}{ifs:List Expr}{p pos' pos spos px:Pos}{x:Str}{ta:TA}{g gt:TG}{tt:TT}{te:TE}(B:Blk X scope cl N bs)(hc:X.calm=true)
  (hgl:Gl X "zip")(hmr:X.mg "zip"=none)(ha:PA X [a,b] ta)(hm:MonoA ta)(hpl:plainE a=true)(hpl2:plainE b=true)(hg:∀C fp s H,PG (cxBlk X scope cl C N fp s H) (.Tuple elts x1 tpos) g) (ht:∀C fp s H,PTs (cxBlk X scope cl C N fp s H) ifs tt) (he:∀C fp s H,PE (cxBlk X scope cl C N fp s H) elt te)
  (hgt:PG X (.Name x px) gt) (hsw:swapsWith (.ListComp elt [⟨.Tuple elts x1 tpos,.Call (.Name "zip" p) [a,b] [] pos',ifs,0⟩] scope pos) (some (.Name x px)) spos.line X.env=pure true)
  (hs:∀x,foldedSetIterable (.Call (.Name "zip" p) [a,b] [] pos') X.env x=pure x:=by intro _;rfl):PS X (.Assign [.Name x px] (.ListComp elt [⟨.Tuple elts x1 tpos,.Call (.Name "zip" p) [a,b] [] pos',ifs,0⟩] scope pos) spos) (tAsg (tLCZD X.K bs ta g tt te) gt):=by
 intro pins s σ H D I h
 refine @ps_lc X scope cl N bs _ _ elt ifs pos spos px x (iZipD X.K ta) g gt tt te B hc (@pi_zipD X elts x1 tpos a b ta p pos' hgl hmr ha hpl hpl2) hg ht he hgt hsw hs pins s σ H D I ?_
 refine hm σ H _ _ (fun vs H1 h=>?_) h
 obtain⟨a,c,ob,kvs,ep,ys,e,hfz,hh,hS2,hle,hz,Pv,p0,pl,ps,pd⟩:=h
 have kz:∀{H:Hp},H a=some (.frz ob (.dK kvs))->SqZ (.d kvs.length ep) X.K H a (kvs.map fun p=>kV p.1):=fun q=>let⟨es,hd,hn⟩:=hh;⟨ob,kvs,es,q,hd,hn,rfl⟩
 refine⟨a,c,ob,kvs,ep,e,hfz,hh,⟨ys,hS2⟩,fun i m zs σ H=>m=ys.length-i/\i<=ys.length/\Pv i zs σ H,⟨ys.length,by simp,Nat.zero_le _,p0⟩,?_⟩
 rintro i m zs σ H ⟨rfl,hi,pv'⟩
 obtain⟨q,q2,ql⟩:=pl i zs σ H hi pv'
 have hz':=leMil hz
 by_cases hlt:i<ys.length
 ·have hlt2:i<kvs.length:=by omega
  have hkv:kvs[i]?=some (kvs[i].1,kvs[i].2):=List.getElem?_eq_getElem hlt2
  refine .inr ⟨⟨_,ys,kV kvs[i].1,ys[i],kz q,q2,by rw[List.getElem?_map,hkv];rfl,by simp[hlt]⟩,by omega,Pv (i+1),fun zs σ' H' p'=>⟨ys.length-(i+1),by omega,rfl,hlt,p'⟩,fun x H' y=>?_⟩
  obtain⟨T,u,v,rfl,hT,rfl,hu,hv⟩:=y
  have e1:=hu _ (kz q)
  rw[List.getElem?_map,hkv]at e1
  cases e1
  exact ps i kvs[i].1 kvs[i].2 v zs σ H hkv (hv ys q2) pv' T _ (same_add hT) upd_same
 ·have e:i=ys.length:=by omega
  subst e
  exact .inl ⟨⟨_,ys,kz q,q2,.inr (Nat.le_refl _)⟩,by omega,fun p hpn=>pd zs σ H pv' p hpn⟩
end
end L2
set_option maxHeartbeats 1000000
namespace PySem
open Sem (wp)
abbrev IsZ2(h:Heap)(z TI TO:Addr)(f0:Value)(f1:Bool):Prop:=
 h.get? z=some {cls:= .type "zip",dict:=none,data:= .fields #[f0,.bool f1,.bool false,.ref TI,.ref TO],slots:=#[]}
section
variable{prog:Program}{w:World}{A:Around}{E:Value->Shared->Prop}{s:Shared}{b1 b2:ZK}
theorem wpAny_loadIfAlive{a:Addr}{M:Model}{Q:Option Obj->Shared->Prop}(h:Q (s.heap.get? a) s):wpAny M A (loadIfAlive a) Q E s:=fun _ _ _=>h
theorem zip2_free{z TI TO T:Addr}{oT:Obj}{f1:Bool}{Q:Bool->Shared->Prop}(hz:IsZ2 s.heap z TI TO (rawInt T) f1)(hT:s.heap.get? T=some oT)
  (hQ:∀h',IsZ2 h' z TI TO (rawInt T) true->Heap.SameBut z s.heap h'->Q false {s with heap:=h'}):wpAny (model prog w) A (Builtin.SmallTypes.ownedTupleIsFree (.ref z)) Q E s:=by
 unfold Builtin.SmallTypes.ownedTupleIsFree
 refine wpAny_bind (wpAny_field hz rfl (x:=rawInt T) rfl ?_)
 show wpAny _ _ (loadIfAlive ((T:Int).toNat)>>=_) _ _ _
 refine wpAny_bind (wpAny_loadIfAlive ?_)
 rw[Int.toNat_natCast,hT]
 show wpAny _ _ (field (.ref z) 1>>=_) _ _ _
 refine wpAny_bind (wpAny_field hz rfl (x:= .bool f1) rfl ?_)
 cases f1
 ·show wpAny _ _ (setField (.ref z) 1 (.bool true)>>=fun _=>pure false) _ _ _
  exact wpAny_bind (wpAny_setField_rec hz (by simp) fun h' hz' hs'=>wpAny_pure (hQ h' hz' hs'))
 ·exact wpAny_pure (hQ s.heap hz (Heap.SameBut.refl ..))
theorem zip2_next_item{z TI TO i1 i2 l1 l2 T:Addr}{oT:Obj}{f1:Bool}{k1 k2:Nat}{xs ys:Array Value}{x y:Value}{Q:Value->Shared->Prop}(D:ZipApart z TI TO i1 i2 l1 l2)
  (hz:IsZ2 s.heap z TI TO (rawInt T) f1)(hT:s.heap.get? T=some oT)(hTI:IsPair s.heap TI (.ref i1) (.ref i2))
  (h1:ZIt b1 s.heap i1 l1 k1)(h2:ZIt b2 s.heap i2 l2 k2)(hl1:ZSq b1 s.heap l1 xs)(hl2:ZSq b2 s.heap l2 ys)(hx:xs[k1]?=some x)(hy:ys[k2]?=some y)
  (hQ:∀h',IsZ2 h' z TI TO (rawInt T) true->ZIt b1 h' i1 l1 (k1+1)->ZIt b2 h' i2 l2 (k2+1)->IsPair h' s.heap.objs.size x y->
   (∀c o,c≠z->c≠i1->c≠i2->s.heap.get? c=some o->h'.get? c=some o)->Q (.ref s.heap.objs.size) {s with heap:=h'}):
  wpAny (model prog w) A (Builtin.«zip.__next__» ⟨[.ref z],[]⟩) (fun fin s'=>∃v,fin= .done (.ret v)/\Q v s') E s:=by
 show wpAny _ _ (field (.ref z) 2>>=_) _ _ _
 refine wpAny_bind (wpAny_field hz rfl (x:= .bool false) rfl ?_)
 show wpAny _ _ (field (.ref z) 3>>=_) _ _ _
 refine wpAny_bind (wpAny_field hz rfl (x:= .ref TI) rfl ?_)
 refine wpAny_bind (wpAny_seqItems hTI rfl ?_)
 show wpAny _ _ (Builtin.SmallTypes.ownedTupleIsFree (.ref z)>>=_) _ _ _
 refine wpAny_bind (zip2_free hz hT fun h₁ hz₁ hs₁=>?_)
 simp only[Bool.false_eq_true,if_false]
 refine wpAny_bind ?_
 simp only[List.forIn_toArray,List.forIn_cons,List.forIn_nil]
 refine wpAny_bind (wpAny_bind (wpAny_holding ?_))
 show wpAny _ _ (Builtin.SmallTypes.nextOf (.ref i1)>>=_) _ _ _
 refine wpAny_bind (zit_item (h1.extBut hs₁.extBut D.i1z) (hl1.extBut hs₁.extBut D.l1z) hx fun h₂ h1₂ hs₂=>wpAny_pure (wpAny_pure ?_))
 refine wpAny_bind (wpAny_bind (wpAny_holding ?_))
 show wpAny _ _ (Builtin.SmallTypes.nextOf (.ref i2)>>=_) _ _ _
 refine wpAny_bind (zit_item ((h2.extBut hs₁.extBut D.i2z).extBut hs₂.extBut D.i12.symm) ((hl2.extBut hs₁.extBut D.l2z).extBut hs₂.extBut D.l2i1) hy fun h₃ h2₃ hs₃=>wpAny_pure (wpAny_pure (wpAny_pure ?_)))
 show wpAny _ _ (newTuple [x,y]>>=_) _ _ _
 refine wpAny_bind (wpAny_newTuple (wpAny_pure ⟨_,rfl,?_⟩))
 have hsz:h₃.objs.size=s.heap.objs.size:=by rw[hs₃.1,hs₂.1,hs₁.1]
 have up:∀c o,h₃.get? c=some o->(h₃.push {cls:= .type "tuple",data:= .seq #[x,y]}).get? c=some o:=fun c o e=>Heap.get?_push_of_some _ e
 show Q (.ref h₃.objs.size) _
 rw[hsz]
 refine hQ _ (up _ _ (hs₃.extBut _ _ D.i2z.symm (hs₂.extBut _ _ D.i1z.symm hz₁))) ((h1₂.extBut hs₃.extBut D.i12).at fun o e=>up _ _ e) (h2₃.at fun o e=>up _ _ e) ?_ fun c o c1 c2 c3 e=>up _ _ (hs₃.extBut _ _ c3 (hs₂.extBut _ _ c2 (hs₁.extBut _ _ c1 e)))
 rw[<-hsz]
 exact Heap.get?_push_size _ rfl
theorem zip2_next_end{z TI TO i1 i2 l1 l2 T:Addr}{oT:Obj}{f1:Bool}{k1:Nat}{xs:Array Value}{Q:Fin->Shared->Prop}(hh:A.handled=none)(D:ZipApart z TI TO i1 i2 l1 l2)
  (hz:IsZ2 s.heap z TI TO (rawInt T) f1)(hT:s.heap.get? T=some oT)(hTI:IsPair s.heap TI (.ref i1) (.ref i2))(h1:ZIt b1 s.heap i1 l1 k1)(hl1:ZSq b1 s.heap l1 xs)(hx:xs[k1]?=none)
  (hE:∀h' e,(∀c o,c≠z->c≠i1->s.heap.get? c=some o->h'.get? c=some o)->(∃o,h'.get? e=some o/\o.cls= .type "StopIteration")->E (.ref e) {s with heap:=h'}):
  wpAny (model prog w) A (Builtin.«zip.__next__» ⟨[.ref z],[]⟩) Q E s:=by
 show wpAny _ _ (field (.ref z) 2>>=_) _ _ _
 refine wpAny_bind (wpAny_field hz rfl (x:= .bool false) rfl ?_)
 show wpAny _ _ (field (.ref z) 3>>=_) _ _ _
 refine wpAny_bind (wpAny_field hz rfl (x:= .ref TI) rfl ?_)
 refine wpAny_bind (wpAny_seqItems hTI rfl ?_)
 show wpAny _ _ (Builtin.SmallTypes.ownedTupleIsFree (.ref z)>>=_) _ _ _
 refine wpAny_bind (zip2_free hz hT fun h₁ hz₁ hs₁=>?_)
 simp only[Bool.false_eq_true,if_false]
 refine wpAny_bind ?_
 simp only[List.forIn_toArray,List.forIn_cons,List.forIn_nil]
 refine wpAny_bind (wpAny_bind (wpAny_holding ?_))
 show wpAny _ _ (Builtin.SmallTypes.nextOf (.ref i1)>>=_) _ _ _
 refine wpAny_bind (zit_end hh (h1.extBut hs₁.extBut D.i1z) (hl1.extBut hs₁.extBut D.l1z) hx fun h₂ e hs₂ he=>?_)
 exact hE h₂ e (fun c o c1 c2 x=>hs₂ _ _ c2 (hs₁.extBut _ _ c1 x)) he
structure ZAny(b1 b2:ZK)(h:Heap)(z TI TO i1 i2 a c:Addr)(i:Nat):Prop where
 ti:IsPair h TI (.ref i1) (.ref i2)
 it1:ZIt b1 h i1 a i
 it2:ZIt b2 h i2 c i
 st:(IsZip h z TI TO .none/\∃u v,IsPair h TO u v)\/∃(T:Addr)(oT:Obj)(f1:Bool),IsZ2 h z TI TO (rawInt T) f1/\h.get? T=some oT/\T≠z/\T≠i1/\T≠i2
theorem ZAny.typ{z TI TO i1 i2 l1 l2:Addr}{i:Nat}(st:ZAny b1 b2 s.heap z TI TO i1 i2 l1 l2 i):s.TypeIs (.ref z) "zip":=by
 rcases st.st with⟨hz,_⟩|⟨T,oT,f1,hz,_⟩
 ·exact⟨_,hz,rfl⟩
 ·exact⟨_,hz,rfl⟩
theorem ZAny.keep{h h':Heap}{z TI TO i1 i2 l1 l2 d:Addr}{i:Nat}(st:ZAny b1 b2 h z TI TO i1 i2 l1 l2 i)(hs:Heap.SameBut d h h')(n1:z≠d)(n2:TI≠d)(n3:TO≠d)(n4:i1≠d)(n5:i2≠d)(nT:∀T:Addr,h.get? T≠none->T=d->∃o,h'.get? T=some o):ZAny b1 b2 h' z TI TO i1 i2 l1 l2 i:=by
 refine⟨hs.extBut _ _ n2 st.ti,st.it1.extBut hs.extBut n4,st.it2.extBut hs.extBut n5,?_⟩
 rcases st.st with⟨hz,u,v,hTO⟩|⟨T,oT,f1,hz,hT,c1,c2,c3⟩
 ·exact .inl ⟨hs.extBut _ _ n1 hz,u,v,hs.extBut _ _ n3 hTO⟩
 ·by_cases e:T=d
  ·obtain⟨o,ho⟩:=nT T (by rw[hT];simp) e
   exact .inr ⟨T,o,f1,hs.extBut _ _ n1 hz,ho,c1,c2,c3⟩
  ·exact .inr ⟨T,oT,f1,hs.extBut _ _ n1 hz,hs.extBut _ _ e hT,c1,c2,c3⟩
theorem zany_item{z TI TO i1 i2 l1 l2:Addr}{i:Nat}{xs ys:Array Value}{x y:Value}{Q:Option Value->Shared->Prop}(D:ZipApart z TI TO i1 i2 l1 l2)(st:ZAny b1 b2 s.heap z TI TO i1 i2 l1 l2 i)
  (hl1:ZSq b1 s.heap l1 xs)(hl2:ZSq b2 s.heap l2 ys)(hx:xs[i]?=some x)(hy:ys[i]?=some y)
  (hQ:∀h',ZAny b1 b2 h' z TI TO i1 i2 l1 l2 (i+1)->IsPair h' s.heap.objs.size x y->(∀c o,c≠z->c≠TO->c≠i1->c≠i2->s.heap.get? c=some o->h'.get? c=some o)->Q (some (.ref s.heap.objs.size)) {s with heap:=h'}):
  wpAny (model prog w) A (pyNext (.ref z)) Q E s:=by
 have hT:=st.typ
 have l1':i1<s.heap.objs.size:=let⟨_,_,e,_⟩:=st.it1.ob;Heap.lt_size e
 have l2':i2<s.heap.objs.size:=let⟨_,_,e,_⟩:=st.it2.ob;Heap.lt_size e
 have lz:z<s.heap.objs.size:=let⟨_,e,_⟩:=hT;Heap.lt_size e
 rcases st.st with⟨hz,u,v,hTO⟩|⟨T,oT,f1,hz,hTT,c1,c2,c3⟩
 ·refine wpAny_pyNext_zipG_item D hz st.ti hTO st.it1 st.it2 hl1 hl2 hx hy fun h' a1 a2 a3 a4 a5 a6 hk=>hQ h' ⟨hk _ _ D.TIz D.TITO D.TIi1 D.TIi2 st.ti,a3,a4,.inr ⟨_,_,false,a1,a5,Nat.ne_of_gt lz,Nat.ne_of_gt l1',Nat.ne_of_gt l2'⟩⟩ a5 hk
 ·unfold pyNext
  exact wpAny_bind (wpAny_attempt (wpAny_callSpecial?_slot (name:=Str.ofString "__next__") hT F.slot_zip_next
   (wpAny_call_entry F.slot_zip_next hT F.entry_zip_next
    (zip2_next_item D hz hTT st.ti st.it1 st.it2 hl1 hl2 hx hy fun h' a1 a2 a3 a4 hk=>wpAny_pure (hQ h' ⟨hk _ _ D.TIz D.TIi1 D.TIi2 st.ti,a2,a3,.inr ⟨T,oT,true,a1,hk _ _ c1 c2 c3 hTT,c1,c2,c3⟩⟩ a4 fun c o d1 _ d3 d4 e=>hk c o d1 d3 d4 e)) (F.args_zip_next_1 _))))
theorem zany_end{z TI TO i1 i2 l1 l2:Addr}{i:Nat}{xs ys:Array Value}{Q:Option Value->Shared->Prop}(hh:A.handled=none)(D:ZipApart z TI TO i1 i2 l1 l2)(st:ZAny b1 b2 s.heap z TI TO i1 i2 l1 l2 i)
  (hl1:ZSq b1 s.heap l1 xs)(hl2:ZSq b2 s.heap l2 ys)(hx:xs[i]?=none)
  (hQ:∀h',(∀c o,c≠z->c≠TO->c≠i1->c≠i2->s.heap.get? c=some o->h'.get? c=some o)->Q none {s with heap:=h'}):wpAny (model prog w) A (pyNext (.ref z)) Q E s:=by
 have hT:=st.typ
 rcases st.st with⟨hz,u,v,hTO⟩|⟨T,oT,f1,hz,hTT,c1,c2,c3⟩
 ·exact wpAny_pyNext_zipG_end hh D hz st.ti hTO st.it1 st.it2 hl1 hl2 (.inl hx) hQ
 ·unfold pyNext
  refine wpAny_bind (wpAny_attempt (wpAny_callSpecial?_slot (name:=Str.ofString "__next__") hT F.slot_zip_next
   (wpAny_call_entry F.slot_zip_next hT F.entry_zip_next (zip2_next_end hh D hz hTT st.ti st.it1 hl1 hx fun h' e hk he=>?_) (F.args_zip_next_1 _))))
  obtain⟨o,ho,hc⟩:=he
  refine wpAny_bind (wpAny_isInstance (T:="StopIteration") (b:=true) ⟨o,ho,hc⟩ isSubtype_stop ?_)
  exact wpAny_pure (hQ _ fun c o d1 _ d3 _ e=>hk c o d1 d3 e)
end
end PySem
set_option maxHeartbeats 1000000
namespace PySem
open Sem (wp)
theorem lk_zip_keys:typeLookup (.type "zip") "keys"=pure none:=by rw[typeLookup_type,builtinLookup_eq_fast];kernel_rfl
theorem lk_zip_getattr:typeLookup (.type "zip") "__getattr__"=pure none:=by rw[typeLookup_type,builtinLookup_eq_fast];kernel_rfl
theorem am_entry_zip_getattribute:entryFor table "zip.__getattribute__"=some Builtin.«object.__getattribute__»:=
 entryFor_alias (id':="object.__getattribute__") (by kernel_rfl) (by decide+kernel) (by decide+kernel) (by kernel_rfl)
theorem meets_miss_zip(a:Addr)(fs:Array Value)(sl:Array (Option Value))(name:Str)(u:Tok)(hmiss:typeLookup (.type "zip") name=pure none)(hname:(["__module__","__name__","__qualname__","__doc__","__annotations__"]:List Str).contains name=false)(hsz:name.length+100<=sizeLine:=by size_fits):
  Meets (Builtin.«object.__getattribute__» ⟨[.ref a,.str name u],[]⟩) (fun A R s=>s.heap.get? a=some {cls:= .type "zip",dict:=none,data:= .fields fs,slots:=sl}/\raisesAttr (.ref a) name A R s):=
 Meets.of_wp fun prog w A R s hs=>by
  obtain⟨hp,g,d,tk,os⟩:=s
  obtain⟨hx,hs⟩:=hs
  have hT:(⟨hp,g,d,tk,os⟩:Shared).TypeIs (.ref a) "zip":=⟨_,hx,rfl⟩
  unfold Builtin.«object.__getattribute__»
  repeat (any_goals (first|assumption|wp_step))
  simp only[hname,Bool.false_eq_true,if_false]
  repeat (any_goals (first|assumption|wp_step))
  exact wpAny_raiseAttrError hs.1 hs.2 (attrMsg_fits (by decide+kernel) hsz)
section
variable{prog:Program}{w:World}{A:Around}{E:Value->Shared->Prop}{s:Shared}
theorem keys_miss_zip{a:Addr}{fs:Array Value}{Q:Option Value->Shared->Prop}(hx:s.heap.get? a=some {cls:= .type "zip",dict:=none,data:= .fields fs,slots:=#[]})(hA:A.handled=none)
  (h:∀h' tk,(∀b o,s.heap.get? b=some o->h'.get? b=some o)->Q none {s with heap:=h',toks:=tk}):wpAny (model prog w) A (getAttr? (.ref a) "keys") Q E s:=by
 obtain⟨hp,g,d,tk,os⟩:=s
 have hT:∀tk',(⟨hp,g,d,tk',os⟩:Shared).TypeIs (.ref a) "zip":=fun _=>⟨_,hx,rfl⟩
 have f1:=sub_AttributeError
 have f3:=F.slot_zip_getattribute.lookup
 have f4:=F.slot_zip_getattribute.bind (.ref a)
 have f5:=lk_zip_getattr
 have hm:=lk_zip_keys
 unfold getAttr? getAttrBy? getAttrBy
 repeat (any_goals (first|assumption|exact hT _|((with_reducible show wpAny _ _ (call (Value.builtin "zip.__getattribute__") _ _) _ _ _);refine call_meets F.slot_zip_getattribute (hT _) am_entry_zip_getattribute (F.args_zip_getattribute_2 _ _) (meets_miss_zip a fs #[] "keys" _ hm (by decide+kernel) (by size_fits)) ⟨hx,hA,fun h' tk' e hx'=>?_⟩)|wp_step))
 obtain⟨t',u',he⟩:=hx'.there
 have hTe:∀tk',(⟨h',g,d,tk',os⟩:Shared).TypeIs (.ref e) "AttributeError":=fun _=>⟨_,he,rfl⟩
 show wpAny _ _ (getattributeRaised _ _ _ _ _ _ _) _ _ _
 unfold getattributeRaised
 repeat (any_goals (first|assumption|exact hTe _|wp_step))
 exact h _ _ hx'.keeps
end
end PySem
namespace DictL
open PySem PySem.Spec PyProof.Rows
section
variable{prog:Program}{w:World}{K:Type}[DecidableEq K]{knd:KeyKind prog w K}{A:Around}{R:Result->Shared->Prop}{b1 b2:ZK}
theorem loopZ{z TI TO i1 i2 l1 l2 D:Addr}{xs ys:Array Value}(ap:ZipApart z TI TO i1 i2 l1 l2)(hD:z≠D/\TI≠D/\TO≠D/\i1≠D/\i2≠D/\l1≠D/\l2≠D)(hh:A.handled=none)(kv:Nat->K×Value)(hxy:xs.size=ys.size)(hb:xs.size<=1000)
  (hx:∀(i:Nat) x,xs[i]?=some x->knd.is (kv i).1 x=true) (hy:∀(i:Nat) y,ys[i]?=some y->y=(kv i).2):
  ∀(k i:Nat)(s:Shared),xs.size-i=k->i<=xs.size->ZAny b1 b2 s.heap z TI TO i1 i2 l1 l2 i->ZSq b1 s.heap l1 xs->ZSq b2 s.heap l2 ys->s.heap.DictOf knd D (upTo kv i)->
   (∀h' tk,(∀c o,c≠z->c≠TO->c≠i1->c≠i2->c≠D->s.heap.get? c=some o->h'.get? c=some o)->h'.DictOf knd D (upTo kv xs.size)->R (.ok (.ret .none)) {s with heap:=h',toks:=tk})->
   codeAny (model prog w) A (.builtin "dict.update.loop" ⟨[.ref D,.ref z,rawInt i,.none],[]⟩) R s:=by
 obtain⟨d1,d2,d3,d4,d5,d6,d7⟩:=hD
 have keepD:∀{h h':Heap}{kvs:List (K×Value)},(∀c o,c≠z->c≠TO->c≠i1->c≠i2->h.get? c=some o->h'.get? c=some o)->h.DictOf knd D kvs->h'.DictOf knd D kvs:=by
  intro h h' kvs hk hS
  obtain⟨o,es,ep,ho,r⟩:=hS
  exact⟨o,es,ep,hk D o (Ne.symm d1) (Ne.symm d3) (Ne.symm d4) (Ne.symm d5) ho,r⟩
 have hh1:A.in1.handled=none:=by simp[hh]
 intro k
 induction k with
 |zero=>
  intro i s hk hi hst q1 q2 hS hR
  have hin:i=xs.size:=by omega
  subst hin
  refine codeAny_builtin entry_loop ?_
  rw[Around.under_plainId plain_loop _]
  show wpAny _ A.in1 (pyNext (.ref z)>>=_) _ _ s
  refine wpAny_bind (zany_end hh1 ap hst q1 q2 (Array.getElem?_eq_none (Nat.le_refl _)) fun h' hk'=>?_)
  show wpAny _ A.in1 (Builtin.Dict.addKeywords D []>>=_) _ _ _
  exact wpAny_bind (wpAny_pure (wpAny_pure (hR h' s.toks (fun c o c1 c2 c3 c4 _ e=>hk' c o c1 c2 c3 c4 e) (keepD hk' hS))))
 |succ k ih=>
  intro i s hk hi hst q1 q2 hS hR
  have hlt:i<xs.size:=by omega
  have ex:xs[i]?=some xs[i]:=Array.getElem?_eq_getElem hlt
  have ey:ys[i]?=some (ys[i]'(by omega)):=Array.getElem?_eq_getElem (by omega)
  refine codeAny_builtin entry_loop ?_
  rw[Around.under_plainId plain_loop _]
  show wpAny _ A.in1 (pyNext (.ref z)>>=_) _ _ s
  refine wpAny_bind (zany_item ap hst q1 q2 ex ey fun h1 st1 hp hk1=>?_)
  have hS':=keepD hk1 hS
  have hT:Shared.TypeIs {s with heap:=h1} (.ref s.heap.objs.size) "tuple":=⟨_,hp,rfl⟩
  show wpAny _ A.in1 (holding [Value.ref s.heap.objs.size] _>>=_) _ _ _
  refine wpAny_bind (wpAny_holding ?_)
  refine wpAny_bind ?_
  refine wpAny_tryCatch ?_
  unfold Builtin.Dict.pairItems
  refine wpAny_bind (wpAny_typeOf hT ?_)
  rw[if_pos (by decide)]
  refine wpAny_bind (wpAny_seqItems hp rfl ?_)
  refine wpAny_pure ?_
  rw[hy i _ ey]
  show wpAny _ A.in1 (holding [xs[i],(kv i).2] (dictSet D xs[i] (kv i).2)) _ _ _
  refine wpAny_holding ?_
  have hlen:=upTo_len kv i
  refine wpAny_dictSet_pairs (s:={s with heap:=h1}) (hsz:=L2.leMil (by omega)) (hx i _ ex) hS' fun h' hD' hsb=>?_
  rw[<-upTo_succ]at hD'
  refine wpAny_pure ⟨plainId_quiet plain_loop _,?_⟩
  show codeAny _ A (.builtin "dict.update.loop" ⟨[.ref D,.ref z,rawInt ((i+1:Nat):Int),.none],[]⟩) R _
  have hsb':Heap.SameBut D h1 h':=hsb
  have kz1:∀{b:ZK}{l:Addr}{vs:Array Value},ZSq b s.heap l vs->l≠D->l≠z->l≠TO->l≠i1->l≠i2->ZSq b h' l vs:=fun{b l vs} q n1 n2 n3 n4 n5=>by
   cases b with
   |d n ep=>exact let⟨o,es,a,r⟩:=q;⟨o,es,hsb'.extBut _ _ n1 (hk1 _ _ n2 n3 n4 n5 a),r⟩
   |_=>exact let⟨o,a,r⟩:=q;⟨o,hsb'.extBut _ _ n1 (hk1 _ _ n2 n3 n4 n5 a),r⟩
  refine ih (i+1) _ (by omega) hlt (st1.keep hsb' d1 d2 d3 d4 d5 fun T _ e=>?_) (kz1 q1 d6 ap.l1z ap.l1TO ap.l1i1 ap.l1i2) (kz1 q2 d7 ap.l2z ap.l2TO ap.l2i1 ap.l2i2) hD' fun h2 tk hk2 hS2=>?_
  ·obtain⟨o,_,_,ho,_⟩:=hD'
   exact⟨o,by rw[e];exact ho⟩
  ·exact hR h2 tk (fun c o c1 c2 c3 c4 c5 e=>hk2 c o c1 c2 c3 c4 c5 (hsb'.extBut _ _ c5 (hk1 c o c1 c2 c3 c4 e))) hS2
variable{E:Value->Shared->Prop}{s:Shared}
theorem call_dict_zip{z TI TO i1 i2 l1 l2:Addr}{xs ys:Array Value}{kv:Nat->K×Value}{Q:Value->Shared->Prop}(hh:A.handled=none)(ap:ZipApart z TI TO i1 i2 l1 l2)(hz:IsZip s.heap z TI TO .none)(hTI:IsPair s.heap TI (.ref i1) (.ref i2))(hTO:IsPair s.heap TO .none .none)
  (h1:ZIt b1 s.heap i1 l1 0)(h2:ZIt b2 s.heap i2 l2 0)(q1:ZSq b1 s.heap l1 xs)(q2:ZSq b2 s.heap l2 ys)(hxy:xs.size=ys.size)(hb:xs.size<=1000)
  (hx:∀(i:Nat) x,xs[i]?=some x->knd.is (kv i).1 x=true) (hy:∀(i:Nat) y,ys[i]?=some y->y=(kv i).2)
  (h:∀(h':Heap)(tk:Nat),h'.DictOf knd s.heap.objs.size (upTo kv xs.size)->(∀b o,b≠z->b≠TO->b≠i1->b≠i2->s.heap.get? b=some o->h'.get? b=some o)->Q (.ref s.heap.objs.size) {s with heap:=h',toks:=tk}):
  wpAny (model prog w) A (call (.type "dict") [.ref z]) Q E s:=by
 refine callType_codes (Q₁:=fun obj s₁=>obj= .ref s.heap.objs.size/\s₁={s with heap:=s.heap.push {cls:= .type "dict",data:= .dict #[]}}) F.kt_called_dict (F.kt_typeCall_dict_1 _) F.entry_dict_init (kt_code_dict_new _ ⟨rfl,rfl⟩) ?_
 rintro obj s₁ ⟨rfl,rfl⟩
 have hnew:(s.heap.push {cls:= .type "dict",data:= .dict #[]}).DictOf knd s.heap.objs.size []:=Heap.DictOf.new s.heap
 have hz':(s.heap.push {cls:= .type "dict",data:= .dict #[]}).get? z=some _:=Heap.get?_push_of_some _ hz
 refine⟨hnew.typeIs,F.args_dict_init_2 _ _,?_⟩
 unfold Builtin.«dict.__init__»
 refine wpAny_bind ?_
 unfold Builtin.Dict.selfAndRest
 refine wpAny_bind (wpAny_notOrdered_dict hnew.typeIs ?_)
 show wpAny _ _ (pure (s.heap.objs.size,[Value.ref z])) _ _ _
 refine wpAny_pure ?_
 show wpAny _ _ (Builtin.Dict.updateFrom "dict.__init__" s.heap.objs.size (.ref z) [] .none) _ _ _
 unfold Builtin.Dict.updateFrom
 refine wpAny_bind (wpAny_typeOf (show Shared.TypeIs _ (.ref z) "zip" from⟨_,hz',rfl⟩) ?_)
 rw[if_pos (by decide)]
 refine wpAny_bind (keys_miss_zip hz' (by simp[hh]) fun g1 tk1 k1=>?_)
 rw[if_pos (show(Option.isNone (none:Option Value))=true from rfl)]
 refine wpAny_bind (wpAny_rule ?_)
 have up:∀b o,s.heap.get? b=some o->g1.get? b=some o:=fun b o e=>k1 _ _ (Heap.get?_push_of_some _ e)
 refine wpAny_bind (wpAny_pyIter_zip (s:={s with heap:=g1,toks:=tk1}) (up _ _ hz) ?_)
 have lt:∀{b o},s.heap.get? b=some o->b≠s.heap.objs.size:=fun e=>Nat.ne_of_lt (Heap.lt_size e)
 refine wpAny_pure ⟨plainId_quiet plain_loop _,?_⟩
 have hh2:A.in1.handled=none:=by simp[hh]
 obtain⟨_,_,o1,_⟩:=h1.ob
 obtain⟨_,_,o2,_⟩:=h2.ob
 have kz:∀{b:ZK}{l:Addr}{vs:Array Value},ZSq b s.heap l vs->ZSq b g1 l vs:=fun{b l vs} q=>by
  cases b with
  |d n ep=>exact let⟨o,es,a,r⟩:=q;⟨o,es,up _ _ a,r⟩
  |_=>exact let⟨o,a,r⟩:=q;⟨o,up _ _ a,r⟩
 refine loopZ (knd:=knd) ap ⟨lt hz,lt hTI,lt hTO,lt o1,lt o2,Nat.ne_of_lt q1.lt,Nat.ne_of_lt q2.lt⟩ hh2 kv hxy hb hx hy (xs.size-0) 0 _ (by simp) (Nat.zero_le _) ⟨up _ _ hTI,h1.at fun o e=>up _ _ e,h2.at fun o e=>up _ _ e,.inl ⟨up _ _ hz,_,_,up _ _ hTO⟩⟩ (kz q1) (kz q2) ?_ fun h' tk hk hS'=>⟨rfl,h h' tk hS' fun b o c1 c2 c3 c4 e=>hk b o c1 c2 c3 c4 (lt e) (up b o e)⟩
 obtain⟨o,es,ep,ho,r⟩:=hnew
 exact⟨o,es,ep,k1 _ _ ho,r⟩
end
end DictL
namespace L2
open PySem PySem.Spec PyProof.Rows
section
variable{X:Cx}
def tDictZ(K:PySem.W.Frag)(ta:TA):TE:=fun σ H Q=>ta σ H fun vs H1=>∃a c kvs ys,vs=[.ref a,.ref c]/\H1 a=some (.dK kvs)/\SqT K H1 c ys/\kvs.length=ys.length/\ys.length<=1000/\∀q,H1 q=none->Q (.ref q) (upd H1 q (.dK (fromPairsK ((kvs.map (·.1)).zip ys))))
theorem boot_dictZ:bootBuiltins "dict"=some (.type "dict"):=by decide+kernel
theorem pe_dictZ{k:Nat}(hr:Room k X.A){a b:Expr}{ta:TA}{p pos p2 pos2:Pos}(hgd:Gl X "dict")(hmd:X.mg "dict"=none)(hg:Gl X "zip")(hm:X.mg "zip"=none)(ha:PA X [a,b] ta)(hpl:plainE a=true)(hpl2:plainE b=true):PE X (.Call (.Name "dict" p) [.Call (.Name "zip" p2) [a,b] [] pos2] [] pos) (tDictZ X.K ta):=by
 intro pins s σ H Q I h
 refine wpAny_Call_Name_kw (ld_blt I hgd hmd boot_dictZ (PyProof.Rows.callWith_type1 ?_ rfl rfl))
 show wpAny _ _ (spliced ((false,eval (.Call (.Name "zip" p2) [a,b] [] pos2) X.env)::[])) _ _ s
 refine Calls.spliced_cons ?_
 refine wpAny_Call_Name_kw (ld_blt I hg hm boot_zip (PyProof.Rows.callWith_type1 (thn (ha pos2 pins s σ H _ I h) fun us s1 xq1=>?_) (star_cons hpl) (star_any (by simp[hpl2]))))
 obtain⟨vs,H1,I1,r1,q1⟩:=xq1
 obtain⟨a',c',kvs,ys,e,hd,hqc,hlen,h1000,q⟩:=q1
 subst e
 obtain⟨u,u',rfl,ru,ru'⟩:=vals2 r1
 cases(show u=Value.ref a' from ru)
 cases(show u'=Value.ref c' from ru')
 obtain⟨ob,ep,ho,es,hod,hon⟩:=held_of I1 hd
 have I1f:=I1.freeze hd ho
 obtain⟨its,rv,pt⟩:=I1f.sqz (b:= .d kvs.length ep) (a:=a') (xs:=kvs.map fun p=>kV p.1) ⟨ob,kvs,es,upd_same,hod,hon,rfl⟩
 obtain⟨jts,rw',pl⟩:=I1.sqz (b:= .t) hqc
 have la:=pt.lt
 have lc:=pl.lt
 refine call_zipG pt pl fun h' hz hTI hTO h1 h2 hsz hk=>Calls.spliced_nil ?_
 have kz:∀{b:ZK}{l:Addr}{vs:Array Value},ZSq b s1.heap l vs->ZSq b h' l vs:=fun{b l vs} q=>by
  cases b with
  |d n ep=>exact let⟨o,es,a,r⟩:=q;⟨o,es,hk _ _ a,r⟩
  |_=>exact let⟨o,a,r⟩:=q;⟨o,hk _ _ a,r⟩
 have l1:=rv.length
 have l2:=rw'.length
 rw[List.length_map]at l1
 have I2:Inv X pins σ H1 {s1 with heap:=h'}:=I1.kept (t':=s1.toks) hk
 refine DictL.call_dict_zip (knd:=mixKind X.prog X.w) (s:={s1 with heap:=h'}) (kv:=fun i=>((kvs.map (·.1)).getD i (.inl 0),jts.getD i .none)) hr.hd (zipApart_new la lc) hz hTI hTO h1 h2 (kz pt) (kz pl) (by simp;omega) (by simp;omega) (fun i x hx=>?_) (fun i y hy=>?_) fun h2' tk hD kp=>?_
 ·have hx':its[i]?=some x:=by simpa using hx
  have hi:i<kvs.length:=by rw[l1];exact(List.getElem?_eq_some_iff.mp hx').1
  obtain⟨u,e1,e2⟩:=rv.get (i:=i) (x:=kV kvs[i].1) (by rw[List.getElem?_map,List.getElem?_eq_getElem hi];rfl)
  rw[hx']at e1
  cases e1
  show(mixKind X.prog X.w).is ((kvs.map (·.1)).getD i (.inl 0)) x=true
  rw[List.getD_eq_getElem?_getD,List.getElem?_map,List.getElem?_eq_getElem hi]
  exact kV_is e2
 ·have hy':jts[i]?=some y:=by simpa using hy
  show y=jts.getD i .none
  rw[List.getD_eq_getElem?_getD,hy']
  rfl
 ·have hps:((kvs.map (·.1)).zip ys).length=kvs.length:=by rw[List.length_zip,List.length_map];omega
  have rel:=fromPairsK_kv (ps:=(kvs.map (·.1)).zip ys) (kv:=fun i=>((kvs.map (·.1)).getD i (.inl 0),jts.getD i .none)) (fun i hi=>by
   rw[hps]at hi
   obtain⟨u,e1,e2⟩:=rw'.get (i:=i) (x:=ys[i]'(by omega)) (List.getElem?_eq_getElem _)
   rw[List.getElem_zip]
   refine⟨?_,?_⟩
   ·show(kvs.map (·.1)).getD i (.inl 0)=_
    rw[List.getD_eq_getElem?_getD,List.getElem?_eq_getElem (by rw[List.length_map];exact hi)]
    rfl
   ·show RelV _ (jts.getD i .none)
    rw[List.getD_eq_getElem?_getD,e1]
    exact e2) _ (Nat.le_refl _)
  rw[List.take_length,hps]at rel
  have esz:its.toArray.size=kvs.length:=by rw[List.size_toArray];omega
  rw[esz]at hD
  have hlp:=fromPairsK_len ((kvs.map (·.1)).zip ys)
  have hle:s1.heap.objs.size<=h'.objs.size:=by omega
  have ne:∀{b:Addr}{o:Obj}(n:Nat),s1.heap.get? b=some o->b≠s1.heap.objs.size+n:=fun n e=>Nat.ne_of_lt (Nat.lt_of_lt_of_le (Heap.lt_size e) (Nat.le_add_right _ _))
  refine⟨.ref h'.objs.size,_,I1.laid (t':=tk) (o:= .dK (fromPairsK ((kvs.map (·.1)).zip ys))) (fun b o e=>kp b o (ne 4 e) (ne 3 e) (ne 0 e) (ne 1 e) (hk b o e)) hle ?_,rfl,q _ (I1.hok.fresh hle)⟩
  exact dk_new (leMil (by omega)) (beq_eq_false_iff_ne.mpr (Ne.symm (Nat.ne_of_lt I2.big))) rel hD
end
end L2
namespace My
open PySem L2
def top(i:Nat):Stmt:=PySem.Challenge.pw_tintties_k84_tables_refused.main.body.getD i (.Pass ⟨0,0,0,0⟩)
def Dr(ns:List Int):Prop:=ns.length<=63
section
variable{P:Program}{w:World}{K:PySem.W.Frag}{mg:Str->Option Value}{base:Heap}
abbrev sDraw:Stmt:=top 74
inductive spDraw(K:PySem.W.Frag)(vs:List V)(H:Hp)(Q:VK)(_z3:XK):Prop
 |mk (a:Addr) (ns:List Int) (k:Int) (_:vs=[.ref a,.int k]) (_:SqL K H a (ns.map V.int)) (_:Dr ns) (_:0<=k) (_:k<=1000000) (_:Q (.int (draw ns k)) H)
theorem scDraw:FnScope ["_law_script","_law_k","_law_cell"] ["_law_script","_law_k"] (defScope sDraw):=⟨rfl,rfl,rfl,by decide+kernel,rfl,by decide+kernel,by decide+kernel⟩
theorem ok_draw{f:Addr}{fd:FuncData}(F:Fun K "_law_draw" "_law_draw" sDraw f fd)(T:Bi mg):FnOk P w K mg base CX0 1 f fd ["_law_script","_law_k"] (spDraw K):=by
 refine F.ok scDraw (fun vs H Q E h=>?_) (fun cdv A outer s H vs Q E hr h=>?_)
 ·obtain⟨a,ns,k,rfl,_⟩:=h
  rfl
 ·obtain⟨a,ns,k,rfl,hS,hd,k0,k1,q⟩:=h
  have hl:ns.length<=63:=hd
  refine⟨_,pss_cons (ps_set (i:=2) scDraw.nd rfl (Or.inl rfl) (pe_op op_add (pe_op op_mul pe_int (pv 1)) pe_int))
   (pss_cons (ps_if (pt_cmpR op_gt (pe_callB call_len_seq (by rfl) T.len bLen (pa_c (pv 0) pa_nil)) pe_int (nomark _))
    (pss_one (ps_set (i:=2) scDraw.nd rfl (Or.inl rfl) (pe_op op_add (pe_op op_add (pe_op op_mod (pe_ix ix_list (pv 0) (pe_op op_mod (pv 1) (pe_callB call_len_seq (by rfl) T.len bLen (pa_c (pv 0) pa_nil))) (fun _ _=>rfl)) pe_int)
     (pe_op op_mul (pe_op op_fdiv (pv 1) (pe_callB call_len_seq (by rfl) T.len bLen (pa_c (pv 0) pa_nil))) pe_int)) pe_int))) pss_nil)
   (pss_cons (ps_set (i:=2) scDraw.nd rfl (Or.inl rfl) (pe_op op_mod (pe_op op_add (pe_op op_add (pe_op op_mul (pv 2) pe_int) (pe_op op_mul (pe_op op_mul (pv 1) (pv 1)) pe_int)) pe_int) pe_int))
   (pss_one (ps_ret (pe_op op_mod (pe_op op_mul (pv 2) (pv 2)) pe_int))))),?_⟩
  refine⟨_,rfl,_,_,rfl,rfl,.inl ⟨by decide,by decide⟩,_,_,rfl,rfl,?_⟩
  refine⟨_,rfl,a,_,rfl,.inl hS,_,_,rfl,rfl,_,rfl,?_⟩
  have last:∀c:Int,c=(if ns.length>0 then ns.getD (k%(ns.length:Int)).toNat 0%2147483629+k/(ns.length:Int)*5381+1 else 3*k+1)->
    (tSeq (tAsg (tOp (rI (fun _ j=>0<j) fun i j=> .int (i%j)) (tOp (rI0 fun i j=> .int (i+j)) (tOp (rI0 fun i j=> .int (i+j)) (tOp (rI CMul fun i j=> .int (i*j)) (tVar 2) (tC (.int 69621))) (tOp (rI CMul fun i j=> .int (i*j)) (tOp (rI CMul fun i j=> .int (i*j)) (tVar 1) (tVar 1)) (tC (.int 40692)))) (tC (.int 7))) (tC (.int 2147483647))) (gName 2))
     (tRet (tOp (rI (fun _ j=>0<j) fun i j=> .int (i%j)) (tOp (rI CMul fun i j=> .int (i*j)) (tVar 2) (tVar 2)) (tC (.int 2147483587))))) {nx:=fun _ H'=>Q .non H',rt:=Q} [some (.ref a),some (.int k),some (.int c)] H:=by
   intro c hc
   refine⟨_,rfl,_,_,rfl,rfl,.inr ⟨by decide,by decide⟩,_,rfl,_,rfl,_,_,rfl,rfl,.inl ⟨by omega,by omega⟩,_,_,rfl,rfl,.inr ⟨by decide,by decide⟩,_,_,rfl,rfl,_,_,rfl,rfl,_,_,rfl,rfl,(by show(0:Int)<2147483647;decide),?_⟩
   have b1:=mod_lo (n:=c*69621+k*k*40692+7) (p:=2147483647) (by decide)
   have b2:=mod_hi (n:=c*69621+k*k*40692+7) (p:=2147483647) (by decide)
   refine⟨_,rfl,_,rfl,_,_,rfl,rfl,.inl ⟨by omega,by omega⟩,_,_,rfl,rfl,(by show(0:Int)<2147483587;decide),?_⟩
   have e:(c*69621+k*k*40692+7)%2147483647*((c*69621+k*k*40692+7)%2147483647)%2147483587=draw ns k:=by
    rw[hc];rfl
   show Q (.int _) H
   rw[e]
   exact q
  refine ite2 (fun hc=>?_) (fun hc=>?_)
  ·have hp:0<ns.length:=by
    have:=of_decide_eq_true hc
    rw[List.length_map]at this
    omega
   have hp':(0:Int)<((ns.map V.int).length:Int):=by rw[List.length_map];omega
   have m1:=mod_lo (n:=k) hp'
   have m2:=mod_hi (n:=k) hp'
   rw[List.length_map]at m2
   have ix:L2.atI (ns.map V.int) (k%((ns.map V.int).length:Int))=some (V.int (ns.getD (k%(ns.length:Int)).toNat 0)):=by
    have e0:k%((ns.map V.int).length:Int)=(((k%(ns.length:Int)).toNat:Nat):Int):=by
     rw[List.length_map]at m1⊢
     omega
    rw[e0]
    refine atI_nat ?_
    have hlt:(k%(ns.length:Int)).toNat<ns.length:=by
     rw[List.length_map]at m1
     omega
    rw[List.getElem?_map,List.getD_eq_getElem?_getD,List.getElem?_eq_getElem hlt]
    rfl
   refine⟨_,rfl,_,rfl,_,rfl,a,_,rfl,.inl hS,_,_,rfl,rfl,hp',a,_,_,_,rfl,rfl,hS,ix,_,_,rfl,rfl,(by show(0:Int)<2147483629;decide),_,rfl,_,rfl,a,_,rfl,.inl hS,_,_,rfl,rfl,⟨hp',by rw[List.length_map];omega⟩,_,_,rfl,rfl,.inr ⟨by decide,by decide⟩,_,_,rfl,rfl,_,_,rfl,rfl,?_⟩
   refine last _ ?_
   rw[if_pos hp,List.length_map]
  ·have hp:¬ns.length>0:=by
    intro z
    refine hc (decide_eq_true ?_)
    rw[List.length_map]
    omega
   refine last _ ?_
   rw[if_neg hp]
end
end My
namespace L2
open PySem
section
variable{P:Program}{w:World}{K:PySem.W.Frag}{mg:Str->Option Value}{base:Heap}{k:Nat}{f:Addr}{fd:FuncData}{ps:List Str}{sp sp':Sp}
theorem FnOk.x(F:FnOk P w K mg base CX0 k f fd ps sp):FnOk P w K mg base (RX.CXe P w) k f fd ps sp:=by
 refine⟨F.len,fun A outer s H args us vs Q E hr e0 hb r h=>codeAny_mono (F.run A outer s H args us vs Q E hr e0 hb r h) fun rr s' hq=>?_⟩
 cases rr with
 |error e=>exact False.elim hq
 |ok fl=>cases fl<;>exact hq
end
end L2
namespace L2
open PySem PySem.Spec PyProof.Rows
theorem op_inK{X:Cx}{K:PySem.W.Frag}(hK:X.K=K):OpR X (compareOp .In) (rIn K false):=by
 subst hK
 exact op_in_seq
theorem pg_tupK{X:Cx}{K:PySem.W.Frag}{es:List Expr}{k:Nat}{t:TGs}{n:Nat}{pos:Pos}(hK:X.K=K)(hc:X.calm=true)(h:PGs X es t)(h1:(assignEach es X.env).length=n)(h2:(assignEach es X.env).findIdx? (·.1)=none):PG X (.Tuple es k pos) (gTup K n t):=by
 subst hK
 exact pg_tup hc h h1 h2
end L2
namespace My
open PySem L2
def compScope:Expr->Scope
 | .ListComp _ _ s _=>s
 | .Call _ [e] _ _=>compScope e
 | .Tuple [_,e] _ _=>compScope e
 | .BinOp _ _ e _=>compScope e
 | .Compare a _ _ _=>compScope a
 |_=>{kind:= .function,names:=[],isGenerator:=false,isCoroutine:=false}
def retE:Stmt->Expr
 | .Return (some e) _=>e
 | .Assign _ e _=>e
 |_=> .Constant .none 0 ⟨0,0,0,0⟩
def stOf(i k:Nat):Stmt:=(defBody (top i)).getD k (.Pass ⟨0,0,0,0⟩)
def bel(x:V)(n:Int):Bool:=match x with
 | .int i=>decide (0<=i)&&decide (i<n)
 |_=>false
def isNum:V->Bool
 | .int _=>true
 |_=>false
inductive Kn(H:Hp):V->Prop
 |non:Kn H .non
 |bl (b:Bool):Kn H (.bl b)
 |int (i:Int):Kn H (.int i)
 |str (s:Str):Kn H (.str s)
 |lst {a:Addr} {xs:List V}:H a=some (.lst xs)->Kn H (.ref a)
 |tup {a:Addr} {xs:List V}:H a=some (.tup xs)->Kn H (.ref a)
 |dK {a:Addr} {kvs:List (Key×V)}:H a=some (.dK kvs)->Kn H (.ref a)
theorem Kn.same{H H':Hp}{x:V}(h:Kn H x)(s:Same H H'):Kn H' x:=by
 cases h with
 |non=>exact .non
 |bl b=>exact .bl b
 |int i=>exact .int i
 |str s=>exact .str s
 |lst e=>exact .lst (s _ _ e)
 |tup e=>exact .tup (s _ _ e)
 |dK e=>exact .dK (s _ _ e)
theorem lv_map(L:Nat->Nat)(n:Nat):lv L n=((List.range n).map fun p:Nat=>(L p:Int)).map V.int:=by
 unfold lv
 rw[List.map_map]
 rfl
theorem rep_zero(es:List (Nat×Nat))(N:Nat):(List.replicate N ([.int 0]:List V)).flatten=lv (dg es 0) N:=by
 apply List.ext_getElem?
 intro i
 have hl:(List.replicate N ([.int 0]:List V)).flatten=List.replicate N (.int 0):=by
  induction N with
  |zero=>rfl
  |succ n ih=>rw[List.replicate_succ,List.flatten_cons,ih];rfl
 rw[hl]
 by_cases hi:i<N
 ·rw[lv_get _ hi,List.getElem?_replicate,if_pos hi]
  rfl
 ·rw[List.getElem?_eq_none (by rw[List.length_replicate];omega),List.getElem?_eq_none (by rw[lv_len];omega)]
theorem lv_congr{L L':Nat->Nat}(n:Nat)(h:∀p,L p=L' p):lv L n=lv L' n:=by rw[show L=L' from funext h]
theorem dg_two(es:List (Nat×Nat))(k:Nat)(h:(es.getD k (0,0)).1≠(es.getD k (0,0)).2)(p:Nat):
  put (put (dg es k) (es.getD k (0,0)).1 (dg es k (es.getD k (0,0)).1+1)) (es.getD k (0,0)).2 (put (dg es k) (es.getD k (0,0)).1 (dg es k (es.getD k (0,0)).1+1) (es.getD k (0,0)).2+1) p=dg es (k+1) p:=by
 rw[dg_succ]
 unfold put atB
 by_cases h1:p=(es.getD k (0,0)).1
 ·have h2:¬p=(es.getD k (0,0)).2:=fun z=>h (h1.symm.trans z)
  rw[if_neg h2,if_pos h1,<-h1]
  simp
 ·by_cases h2:p=(es.getD k (0,0)).2
  ·rw[if_pos h2,if_neg (fun z=>h z.symm),<-h2]
   simp
  ·rw[if_neg h2,if_neg h1,beq_eq_false_iff_ne.mpr h1,beq_eq_false_iff_ne.mpr h2]
   rfl
section
variable{P:Program}{w:World}{K:PySem.W.Frag}{mg:Str->Option Value}{base:Heap}
abbrev sNum:Stmt:=top 17
theorem scNum:FnScope ["thing"] ["thing"] (defScope sNum):=⟨rfl,rfl,rfl,by decide+kernel,rfl,by decide+kernel,by decide+kernel⟩
abbrev sBel:Stmt:=top 18
theorem scBel:FnScope ["thing","bound"] ["thing","bound"] (defScope sBel):=⟨rfl,rfl,rfl,by decide+kernel,rfl,by decide+kernel,by decide+kernel⟩
inductive spNum2(vs:List V)(H:Hp)(Q:VK)(_z3:XK):Prop
 |mk (x:_) (_:vs=[x]) (_:Kn H x) (_:Q (.bl (isNum x)) H)
theorem ok_num2{f:Addr}{fd:FuncData}(F:Fun K "is_number" "is_number" sNum f fd)(T:Bi mg):FnOk P w K mg base CX0 1 f fd ["thing"] spNum2:=by
 refine F.ok scNum (fun vs H Q E h=>?_) (fun cdv A outer s H vs Q E hr h=>?_)
 ·obtain⟨x,rfl,_⟩:=h
  rfl
 ·obtain⟨x,rfl,kn,q⟩:=h
  refine⟨_,pss_one (ps_ret (pe_and (pe_callB call_isinst rfl T.isi bIsi (pa_c (pv 0) (pa_c (pe_bltn (v:= .ty "int") rfl T.int bInt rfl) pa_nil)))
   (pe_one (pe_not (pe_callB call_isinst rfl T.isi bIsi (pa_c (pv 0) (pa_c (pe_bltn (v:= .ty "bool") rfl T.bool bBool rfl) pa_nil))))))),?_⟩
  cases kn with
  |non=>exact⟨_,rfl,_,_,_,_,rfl,.non,kit K "NoneType" "int" false (by decide+kernel),_,rfl,iteF q⟩
  |bl b=>exact⟨_,rfl,_,_,_,_,rfl,.bl b,kit K "bool" "int" true (by decide+kernel),_,rfl,iteT ⟨_,rfl,_,_,_,_,rfl,.bl b,kit K "bool" "bool" true (by decide+kernel),_,rfl,q⟩⟩
  |int i=>exact⟨_,rfl,_,_,_,_,rfl,.int i,kit K "int" "int" true (by decide+kernel),_,rfl,iteT ⟨_,rfl,_,_,_,_,rfl,.int i,kit K "int" "bool" false (by decide+kernel),_,rfl,q⟩⟩
  |str x=>exact⟨_,rfl,_,_,_,_,rfl,.str x,kit K "str" "int" false (by decide+kernel),_,rfl,iteF q⟩
  |lst e=>exact⟨_,rfl,_,_,_,_,rfl,.lst e,kit K "list" "int" false (by decide+kernel),_,rfl,iteF q⟩
  |tup e=>exact⟨_,rfl,_,_,_,_,rfl,.tup e,kit K "tuple" "int" false (by decide+kernel),_,rfl,iteF q⟩
  |dK e=>exact⟨_,rfl,_,_,_,_,rfl,.dK e,kit K "dict" "int" false (by decide+kernel),_,rfl,iteF q⟩
inductive spBel2(vs:List V)(H:Hp)(Q:VK)(_z3:XK):Prop
 |mk (x:_) (n:Int) (_:vs=[x,.int n]) (_:Kn H x) (_:Q (.bl (bel x n)) H)
theorem ok_bel2{f:Addr}{fd:FuncData}(F:Fun K "is_below" "is_below" sBel f fd)(FN:FnE P w K mg base "is_number" ["thing"] 1 spNum2):FnOk P w K mg base CX0 2 f fd ["thing","bound"] spBel2:=by
 refine F.ok scBel (fun vs H Q E h=>?_) (fun cdv A outer s H vs Q E hr h=>?_)
 ·obtain⟨x,n,rfl,_⟩:=h
  rfl
 ·obtain⟨x,n,rfl,kn,q⟩:=h
  refine⟨_,pss_one (ps_ret (pe_and (pe_fc FN hr (pa_c (pv 0) pa_nil)) (pe_one (pe_chain op_le op_lt pe_int (pv 0) (pv 1))))),?_⟩
  refine⟨_,rfl,x,rfl,kn,_,rfl,?_⟩
  cases kn with
  |int i=>
   refine iteT ⟨_,rfl,_,_,rfl,rfl,_,rfl,?_⟩
   refine ite2 (fun z=>?_) (fun z=>?_)
   ·refine⟨_,rfl,_,_,rfl,rfl,?_⟩
    have e:bel (.int i) n=decide (i<n):=by
     show(decide (0<=i)&&decide (i<n))=_
     rw[decide_eq_true (of_decide_eq_true z),Bool.true_and]
    rw[e]at q
    exact q
   ·have e:bel (.int i) n=false:=by
     show(decide (0<=i)&&decide (i<n))=_
     rw[Bool.eq_false_iff.mpr z,Bool.false_and]
    rw[e]at q
    have e2:decide ((0:Int)<=i)=false:=Bool.eq_false_iff.mpr z
    first
     |exact q
     |(show Q (.bl (decide ((0:Int)<=i))) H;rw[e2];exact q)
  |non=>exact iteF q
  |bl b=>exact iteF q
  |str x=>exact iteF q
  |lst e=>exact iteF q
  |tup e=>exact iteF q
  |dK e=>exact iteF q
abbrev sMo:Stmt:=top 21
inductive spMo(vs:List V)(H:Hp)(Q:VK)(_z3:XK):Prop
 |mk (p n q ts es:_) (_:vs=[.ref p]) (_:NetZ H p n q ts es) (_:∀H' M,Same H H'->IsMax (dl es n) M->Q (.int M) H')
theorem scMo:FnScope ["net","crowds","ends","point"] ["net"] (defScope sMo):=⟨rfl,rfl,rfl,by decide+kernel,rfl,by decide+kernel,by decide+kernel⟩
theorem ok_mo{f:Addr}{fd:FuncData}(F:Fun K "most_of" "most_of" sMo f fd)(T:Bi mg):FnOk P w K mg base CX0 1 f fd ["net"] spMo:=by
 refine F.ok scMo (fun vs H Q E h=>?_) (fun cdv A outer s H vs Q E hr h=>?_)
 ·obtain⟨p,n,q,ts,es,rfl,_⟩:=h
  rfl
 ·obtain⟨p,n,qa,ts,es,rfl,N,q⟩:=h
  refine⟨_,pss_cons (ps_set (i:=1) scMo.nd rfl (Or.inl rfl) (pe_op op_rep (pe_lst (pa_c pe_int pa_nil)) (pe_ix ix_tup (pv 0) pe_int (fun _ _=>rfl))))
   (pss_cons (ps_for PassesOwn.never rfl (pi_tup (pe_ix ix_tup (pv 0) pe_int (fun _ _=>rfl))) (pg_name (i:=2) scMo.nd rfl (Or.inl rfl))
    (pss_one (ps_for PassesOwn.never rfl (pi_tup (pv 2)) (pg_name (i:=3) scMo.nd rfl (Or.inl rfl)) (pss_one (ps_augS (pv 1) (pv 3) get_list pe_int ip_add set_listN)))))
   (pss_one (ps_ret (pe_maxD (d:=0) rfl (pv 1) pe_int rfl T.max rfl)))),?_⟩
  have h60:=N.n60
  refine⟨(by show 1<=sizeLine;decide),fun b hb=>?_⟩
  refine⟨_,rfl,p,_,_,_,rfl,rfl,SqT.of (by rw[upd_ne (ne_of_none N.e1 hb)];exact N.e1),rfl,b,(n:Int),_,rfl,rfl,upd_same,(by omega),(by omega),(by rw[sizeLine_eq];show 1*((n:Int)).toNat<=_;omega),fun D hD=>?_⟩
  have s1:Same H (upd (upd H b (.lst [.int 0])) D (.lst (List.replicate ((n:Int)).toNat ([.int 0]:List V)).flatten)):=Same.trans (same_new hb) (same_new hD)
  have hD0:H D=none:=(same_new hb).none hD
  rw[Int.toNat_natCast,rep_zero es]
  rw[Int.toNat_natCast,rep_zero es]at s1
  have step:∀(H2:Hp)(g:Nat->Nat)(k:Nat),k<n->Same H H2->H2 D=some (.lst (lv g n))->∀(Q':Hp->Prop),(∀H3,Same H H3->H3 D=some (.lst (lv (put g k (g k+1)) n))->Q' H3)->
    gGetL (.ref D) (.int (k:Int)) H2 fun x H3=>ipI (fun i j=>i+j) x (.int 1) H3 fun z H5=>rSetN (.ref D) (.int (k:Int)) z H5 Q':=by
   intro H2 g k hk s2 hg Q' q'
   refine⟨D,_,k,.int (g k:Int),rfl,rfl,hg,lv_get _ hk,(g k:Int),1,rfl,rfl,D,_,k,rfl,rfl,hg,by rw[lv_len];exact hk,q' _ (s2.wr hD0) ?_⟩
   rw[upd_same,<-lv_set]
   rfl
  refine⟨_,rfl,p,_,_,_,rfl,rfl,SqT.of (s1 _ _ N.e1),rfl,qa,rfl,⟨_,SqT.of (s1 _ _ N.e2)⟩,for_tup (K:=K) (a:=qa) (xs:=ts) (fun i σ H'=>(∃v2 v3,σ=[some (.ref p),some (.ref D),v2,v3])/\Same H H'/\H' D=some (.lst (lv (dg es i) n))) ⟨⟨_,_,rfl⟩,s1,upd_same⟩ (fun i σ H' _ z=>SqT.of (z.2.1 _ _ N.e2)) (fun i x σ H' hx xq1=>?_) (fun σ H' xq1=>?_)⟩
  ·obtain⟨⟨v2,v3,e⟩,sH,hc⟩:=xq1
   subst e
   obtain⟨a,rfl,ha⟩:=N.tie i x hx
   have hlt:i<es.length:=by rw[<-N.len];exact(List.getElem?_eq_some_iff.mp hx).1
   obtain⟨a1,b1,ab⟩:=N.ok _ (getD_mem hlt)
   have tw:=dg_two es i ab
   generalize hA:(es.getD i (0,0)).1=A1 at*
   generalize hB:(es.getD i (0,0)).2=B1 at*
   refine⟨_,rfl,a,rfl,⟨_,SqT.of (sH _ _ ha)⟩,for_tup (K:=K) (a:=a) (xs:=[.int (A1:Int),.int (B1:Int)]) (fun j σ H2=>(∃v3,σ=[some (.ref p),some (.ref D),some (.ref a),v3])/\Same H H2/\H2 D=some (.lst (lv (if j=0 then dg es i else if j=1 then put (dg es i) A1 (dg es i A1+1)else put (put (dg es i) A1 (dg es i A1+1)) B1 (put (dg es i) A1 (dg es i A1+1) B1+1)) n))) ⟨⟨v3,rfl⟩,sH,hc⟩ (fun j σ H2 _ z=>SqT.of (z.2.1 _ _ ha)) (fun j y σ H2 hy xq1=>?_) (fun σ H2 xq1=>?_)⟩
   ·obtain⟨⟨v3,e3⟩,s2,h2⟩:=xq1
    subst e3
    match j,hy with
    |0,hy=>
     cases hy
     exact⟨_,rfl,_,rfl,step H2 _ A1 a1 s2 h2 _ fun H3 s3 h3=>⟨⟨_,rfl⟩,s3,h3⟩⟩
    |1,hy=>
     cases hy
     exact⟨_,rfl,_,rfl,step H2 _ B1 b1 s2 h2 _ fun H3 s3 h3=>⟨⟨_,rfl⟩,s3,h3⟩⟩
   ·obtain⟨⟨v3,e3⟩,s2,h2⟩:=xq1
    refine⟨⟨_,_,e3⟩,s2,?_⟩
    rw[h2,<-lv_congr n tw]
    rfl
  ·obtain⟨⟨v2,v3,z1⟩,z2,z3⟩:=xq1
   subst z1
   rw[show ts.length=es.length from N.len,lv_map]at z3
   refine⟨_,rfl,D,_,rfl,SqL.of z3,fun M hM=>q H' M z2 hM⟩
end
theorem in_at(p:Nat)(e:Nat×Nat):inV (.int (p:Int)) [.int (e.1:Int),.int (e.2:Int)]=true↔At e p:=by
 unfold inV At
 simp only[List.any_cons,List.any_nil,Bool.or_false,eqV,Bool.or_eq_true]
 constructor
 ·rintro(h|h)
  ·left;have:=eq_of_beq h;omega
  ·right;have:=eq_of_beq h;omega
 ·rintro(h|h)
  ·left;exact beq_iff_eq.mpr (by rw[h])
  ·right;exact beq_iff_eq.mpr (by rw[h])
section
variable{P:Program}{w:World}{K:PySem.W.Frag}{mg:Str->Option Value}{base:Heap}
abbrev sTa:Stmt:=top 31
abbrev taScope:Scope:=compScope (retE (stOf 31 0))
abbrev nTa:List Str:=["net","tints","point"]
inductive spTa(P:Program)(w:World)(vs:List V)(H:Hp)(Q:VK)(_z3:XK):Prop
 |mk (p r:Addr) (n:Nat) (q:Addr) (ts:List V) (es:List (Nat×Nat)) (tl:List (Option Nat)) (pt:Nat) (_:vs=[.ref p,.ref r,.int (pt:Int)]) (_:NetZ H p n q ts es) (_:H r=some (.tup (tv tl))) (_:tl.length=es.length) (_:∀H' d kvs,Same H H'->H' d=some (dnHO P w d kvs)->(∀t:Nat,(valV kvs (some (t:Int))).isSome=true↔Used es tl es.length pt t)->Q (.ref d) H')
theorem ndTa:(["ends","tint","point"]:List Str).Nodup:=by decide+kernel
theorem scTa:FnScope nTa ["net","tints","point"] (defScope sTa):=⟨rfl,rfl,rfl,by decide+kernel,rfl,by decide+kernel,by decide+kernel⟩
theorem blkTa{f:Addr}{cdv:Value}{A:Around}{outer:List Env}{s:Shared}{H:Hp}{E:XK}:
  Blk (cxOf CX0 P w K mg base nTa "tints_at" (defScope sTa) f cdv A outer s H E).nox taScope [("point",s.heap.objs.size+1)] ["ends","tint","point"] [none,none,some 2]:=by
 refine⟨rfl,rfl,by decide+kernel,by decide+kernel,fun p hp=>?_,fun y hy e=>?_,⟨rfl,rfl,rfl⟩,trivial⟩
 ·rw[List.mem_singleton.mp hp]
  rfl
 ·have hy':y∈[((PySem.Str.ofString ".0":Str),NameKind.local),(PySem.Str.ofString "ends",.local),(PySem.Str.ofString "tint",.local),(PySem.Str.ofString "point",.free)]:=hy
  simp only[List.mem_cons,List.not_mem_nil,or_false]at hy'
  rcases hy' with rfl|rfl|rfl|rfl<;>first|rfl|cases e
theorem ok_ta{f:Addr}{fd:FuncData}(F:Fun K "tints_at" "tints_at" sTa f fd)(T:Bi mg):FnOk P w K mg base CX0 1 f fd ["net","tints","point"] (spTa P w):=by
 refine F.ok scTa (fun vs H Q E h=>?_) (fun cdv A outer s H vs Q E hr h=>?_)
 ·obtain⟨p,r,n,q,ts,es,tl,pt,rfl,_⟩:=h
  rfl
 ·obtain⟨p,r,n,qa,ts,es,tl,pt,rfl,N,hR,htl,q⟩:=h
  refine⟨_,pss_one (ps_ret (pe_callTy (call_dictN hr) rfl T.dict bDict (pa_c (pe_lcZ blkTa rfl rfl T.zip (pa_c (pe_ix ix_tup (pv 0) pe_int (fun _ _=>rfl)) (pa_c (pv 1) pa_nil)) (monoA_cons (mono_ixT (mono_var 0) (mono_c _)) (monoA_cons (mono_var 1) monoA_nil)) rfl rfl
   (fun C fp s H=>pg_tupK (K:=K) (n:=2) rfl rfl (@pgs_cons _ _ _ _ _ (pg_name (i:=0) ndTa rfl (Or.inl rfl) (hf:=Or.inr rfl)) (@pgs_cons _ _ _ _ _ (pg_name (i:=1) ndTa rfl (Or.inl rfl) (hf:=Or.inr rfl)) pgs_nil rfl) rfl) rfl rfl)
   (fun C fp s H=>pts_one (pt_cmpR (op_inK rfl) (pv 2) (pv 0) rfl)) (fun C fp s H=>pe_tupS (pa_c (pv 1) (pa_c pe_bl pa_nil)))) pa_nil))),?_⟩
  have h200:=N.l200
  have hlen:=N.len
  refine⟨_,rfl,p,_,_,_,rfl,rfl,SqT.of N.e1,rfl,_,rfl,qa,r,ts,tv tl,rfl,SqT.of N.e2,SqT.of hR,(by rw[tv_len];omega),(by omega),
   fun i ys σ H'=>Same H H'/\ys.length<=i/\(∃ps:List (Option Int×V),ys.length=ps.length/\(∀(j:Nat) y pr,ys[j]?=some y->ps[j]?=some pr->∃b,y= .ref b/\H' b=some (.tup [nV pr.1,pr.2]))/\∀t:Nat,(∃pr∈ps,pr.1=some (t:Int))↔Used es tl i pt t)/\∃v0 v1,σ=[v0,v1,some (.int (pt:Int))],
   ⟨Same.refl H,Nat.le_refl _,⟨[],rfl,(fun j y pr z=>by rw[List.getElem?_nil]at z;cases z),fun t=>⟨(fun⟨pr,z,_⟩=>by cases z),fun z=>absurd z Used.zero⟩⟩,none,none,rfl⟩,
   fun i ys σ H' hi⟨sH,hl,_⟩=>⟨SqT.of (sH _ _ N.e2),SqT.of (sH _ _ hR),hl⟩,fun i x y ys σ H' hx hy xq1 TT H1 s1 hTT=>?_,fun ys σ H' xq1 l H2 s2 hl2=>?_⟩
  ·obtain⟨sH,hl,⟨ps,h1,h2,h3⟩,v0,v1,e⟩:=xq1
   subst e
   have hi:i<ts.length:=(List.getElem?_eq_some_iff.mp hx).1
   obtain⟨o,ho,rfl⟩:=tv_inv hy
   obtain⟨a,rfl,ha⟩:=N.tie i x hx
   have sH1:=Same.trans sH s1
   refine⟨TT,_,rfl,SqT.of hTT,rfl,_,_,rfl,_,_,rfl,rfl,?_⟩
   refine⟨_,rfl,_,rfl,a,_,rfl,.inr (SqT.of (sH1 _ _ ha)),rfl,rfl,_,rfl,?_⟩
   refine ite2 (fun hh=>?_) (fun hh=>?_)
   ·have hat:=(in_at pt (es.getD i (0,0))).mp hh
    refine⟨_,rfl,rfl,fun u H3 s3 hu=>⟨Same.trans sH1 s3,by rw[List.length_append,List.length_singleton];omega,⟨ps++[(o.map fun t:Nat=>(t:Int),.bl true)],by rw[List.length_append,List.length_append,h1];rfl,fun j y pr z1 z2=>?_,fun t=>?_⟩,_,_,rfl⟩⟩
    ·by_cases hj:j<ys.length
     ·rw[List.getElem?_append_left hj]at z1
      rw[List.getElem?_append_left (by omega)]at z2
      obtain⟨b,e1,e2⟩:=h2 j y pr z1 z2
      exact⟨b,e1,s3 _ _ (s1 _ _ e2)⟩
     ·rw[List.getElem?_append_right (by omega)]at z1
      rw[List.getElem?_append_right (by omega),<-h1]at z2
      have hj0:j-ys.length=0:=by
       cases hz:j-ys.length with
       |zero=>rfl
       |succ m=>rw[hz]at z1;cases z1
      rw[hj0]at z1 z2
      cases z1
      cases z2
      exact⟨u,rfl,by rw[hu,tN_nV]⟩
    ·rw[Used.succ,<-h3 t,ho]
     constructor
     ·rintro⟨pr,hp,e⟩
      rcases List.mem_append.mp hp with z|z
      ·exact .inl ⟨pr,z,e⟩
      ·rw[List.mem_singleton]at z
       subst z
       right
       cases o with
       |none=>cases e
       |some t'=>
        have:t'=t:=by have e':some (t':Int)=some (t:Int):=e;have:=Option.some.inj e';omega
        subst this
        exact⟨rfl,hat⟩
     ·rintro(⟨pr,hp,e⟩|⟨z,_⟩)
      ·exact⟨pr,List.mem_append_left _ hp,e⟩
      ·cases z
       exact⟨_,List.mem_append_right _ (List.mem_singleton.mpr rfl),rfl⟩
   ·have hat:¬At (es.getD i (0,0)) pt:=fun z=>hh ((in_at pt (es.getD i (0,0))).mpr z)
    refine⟨sH1,by omega,⟨ps,h1,fun j y pr z1 z2=>?_,fun t=>?_⟩,_,_,rfl⟩
    ·obtain⟨b,e1,e2⟩:=h2 j y pr z1 z2
     exact⟨b,e1,s1 _ _ e2⟩
    ·rw[h3 t,Used.succ]
     exact⟨.inl,fun z=>z.elim id fun⟨_,z⟩=>absurd z hat⟩
  ·obtain⟨sH,hl,⟨ps,h1,h2,h3⟩,_⟩:=xq1
   refine⟨l,ys,ps,rfl,SqL.of hl2,h1,by omega,fun j y pr z1 z2=>?_,fun d H3 s3 hd=>q H3 d _ (Same.trans (Same.trans sH s2) s3) hd fun t=>?_⟩
   ·obtain⟨b,e1,e2⟩:=h2 j y pr z1 z2
    exact⟨b,e1,s2 _ _ e2⟩
   ·rw[fromPairs_in,h3 t,hlen]
end
noncomputable def frees(es:List (Nat×Nat))(tl:List (Option Nat))(pt m:Nat):List Nat:=(List.range m).filter fun t=>@decide (¬Used es tl es.length pt t) (Classical.propDecidable _)
theorem frees_succ_in{es:List (Nat×Nat)}{tl:List (Option Nat)}{pt m:Nat}(h:¬Used es tl es.length pt m):frees es tl pt (m+1)=frees es tl pt m++[m]:=by
 unfold frees
 rw[List.range_succ,List.filter_append,List.filter_cons,if_pos (@decide_eq_true _ (Classical.propDecidable _) h)]
 rfl
theorem frees_succ_out{es:List (Nat×Nat)}{tl:List (Option Nat)}{pt m:Nat}(h:Used es tl es.length pt m):frees es tl pt (m+1)=frees es tl pt m:=by
 unfold frees
 rw[List.range_succ,List.filter_append,List.filter_cons,if_neg (fun z=>absurd h (@of_decide_eq_true _ (Classical.propDecidable _) z))]
 simp
theorem frees_len(es:List (Nat×Nat))(tl:List (Option Nat))(pt m:Nat):(frees es tl pt m).length<=m:=by
 unfold frees
 exact Nat.le_trans (List.length_filter_le _ _) (by rw[List.length_range];exact Nat.le_refl _)
theorem nl_app(l:List Nat)(x:Nat):nl l++[V.int (x:Int)]=nl (l++[x]):=by unfold nl;rw[List.map_append];rfl
section
variable{P:Program}{w:World}{K:PySem.W.Frag}{mg:Str->Option Value}{base:Heap}
abbrev sFt:Stmt:=top 32
abbrev ftScope:Scope:=compScope (retE (stOf 32 1))
abbrev nFt:List Str:=["net","tints","point","many","taken"]
inductive spFt(vs:List V)(H:Hp)(Q:VK)(_z3:XK):Prop
 |mk (p r:Addr) (n:Nat) (q:Addr) (ts:List V) (es:List (Nat×Nat)) (tl:List (Option Nat)) (pt m:Nat) (_:vs=[.ref p,.ref r,.int (pt:Int),.int (m:Int)]) (_:NetZ H p n q ts es) (_:H r=some (.tup (tv tl))) (_:tl.length=es.length) (_:m<=1000) (_:∀H' t,Same H H'->H' t=some (.tup (nl (frees es tl pt m)))->Q (.ref t) H')
theorem ndFt:(["tint","taken"]:List Str).Nodup:=by decide+kernel
theorem scFt:FnScope nFt ["net","tints","point","many"] (defScope sFt):=⟨rfl,rfl,rfl,by decide+kernel,rfl,by decide+kernel,by decide+kernel⟩
theorem blkFt{f:Addr}{cdv:Value}{A:Around}{outer:List Env}{s:Shared}{H:Hp}{E:XK}:
  Blk (cxOf CX0 P w K mg base nFt "free_tints" (defScope sFt) f cdv A outer s H E).nox ftScope [("taken",s.heap.objs.size+1)] ["tint","taken"] [none,some 4]:=by
 refine⟨rfl,rfl,by decide+kernel,by decide+kernel,fun p hp=>?_,fun y hy e=>?_,⟨rfl,rfl,rfl⟩,trivial⟩
 ·rw[List.mem_singleton.mp hp]
  rfl
 ·have hy':y∈[((PySem.Str.ofString ".0":Str),NameKind.local),(PySem.Str.ofString "tint",.local),(PySem.Str.ofString "taken",.free)]:=hy
  simp only[List.mem_cons,List.not_mem_nil,or_false]at hy'
  rcases hy' with rfl|rfl|rfl<;>first|rfl|cases e
theorem ok_ft{f:Addr}{fd:FuncData}(F:Fun K "free_tints" "free_tints" sFt f fd)(T:Bi mg)(FA:FnE P w K mg base "tints_at" ["net","tints","point"] 1 (spTa P w)):FnOk P w K mg base CX0 2 f fd ["net","tints","point","many"] spFt:=by
 refine F.ok scFt (fun vs H Q E h=>?_) (fun cdv A outer s H vs Q E hr h=>?_)
 ·obtain⟨p,r,n,q,ts,es,tl,pt,m,rfl,_⟩:=h
  rfl
 ·obtain⟨p,r,n,qa,ts,es,tl,pt,m,rfl,N,hR,htl,hm,q⟩:=h
  refine⟨_,pss_cons (ps_set (i:=4) scFt.nd rfl (Or.inr rfl) (pe_fc FA hr (pa_c (pv 0) (pa_c (pv 1) (pa_c (pv 2) pa_nil)))))
   (pss_one (ps_ret (pe_callTy call_tuple_ofS rfl T.tuple bTuple (pa_c (pe_lcR blkFt rfl rfl T.range (pa_c (pv 3) pa_nil) (monoA_cons (mono_var 3) monoA_nil) rfl (fun C fp s H=>pg_name (i:=0) ndFt rfl (Or.inl rfl))
    (fun C fp s H=>pts_one (pt_cmp (pc_dnotinNK (P:=P) (w:=w) rfl rfl (pv 0) (pv 1)))) (fun C fp s H=>pv 0)) pa_nil)))),?_⟩
  refine⟨_,rfl,_,rfl,_,rfl,p,r,n,qa,ts,es,tl,pt,rfl,N,hR,htl,fun H1 d kvs s1 hd hkv=>?_⟩
  refine⟨_,rfl,m,rfl,by omega,fun i ys σ H'=>Same H1 H'/\ys=nl (frees es tl pt i)/\∃v0,σ=[v0,some (.ref d)],⟨Same.refl _,rfl,none,rfl⟩,fun i ys σ H' hi⟨_,e,_⟩=>by subst e;rw[nl_len];exact frees_len _ _ _ _,fun i ys σ H' hi xq1=>?_,fun ys σ H' xq1 l H2 s2 hl=>?_⟩
  ·obtain⟨sH,e1,v0,e⟩:=xq1
   subst e1 e
   refine⟨_,rfl,_,rfl,d,kvs,some (0+(i:Int)),rfl,rfl,sH _ _ hd,_,rfl,?_⟩
   rw[Int.zero_add]
   refine ite2 (fun hz=>?_) (fun hz=>?_)
   ·have hu:¬Used es tl es.length pt i:=fun z=>by rw[(hkv i).mpr z]at hz;cases hz
    exact⟨_,rfl,sH,by rw[frees_succ_in hu,<-nl_app],_,rfl⟩
   ·have hu:Used es tl es.length pt i:=(hkv i).mp (by
     cases z:(valV kvs (some (i:Int))).isSome with
     |true=>rfl
     |false=>rw[z]at hz;exact absurd rfl hz)
    exact⟨sH,by rw[frees_succ_out hu],_,rfl⟩
  ·obtain⟨sH,e1,_⟩:=xq1
   subst e1
   exact⟨l,_,rfl,.inl hl,fun t H3 s3 ht=>q H3 t (Same.trans (Same.trans (Same.trans s1 sH) s2) s3) ht⟩
abbrev sFb:Stmt:=top 33
abbrev fbScope:Scope:=compScope (retE (stOf 33 1))
abbrev nFb:List Str:=["net","tints","one","other","many","taken"]
end
theorem mono_call{sp:Sp}{t:TA}(hs:∀vs H Q Q' E,(∀v H',Q v H'->Q' v H')->sp vs H Q E->sp vs H Q' E) (h:MonoA t):MonoE (tCall sp [] E0 t):=fun σ H Q Q' k q=>h σ H _ _ (fun vs H1 q=>hs _ _ _ _ _ k q) q
theorem mono_ft:∀vs H Q Q' E,(∀v H',Q v H'->Q' v H')->spFt vs H Q E->spFt vs H Q' E:=fun vs H Q Q' E k⟨p,r,n,q,ts,es,tl,pt,m,e,N,h1,h2,h3,z⟩=>⟨p,r,n,q,ts,es,tl,pt,m,e,N,h1,h2,h3,fun H' t s ht=>k _ _ (z H' t s ht)⟩
noncomputable def unus(es:List (Nat×Nat))(tl:List (Option Nat))(pt:Nat)(l:List Nat):List Nat:=l.filter fun t=>@decide (¬Used es tl es.length pt t) (Classical.propDecidable _)
theorem unus_mem{es:List (Nat×Nat)}{tl:List (Option Nat)}{pt t:Nat}{l:List Nat}:t∈unus es tl pt l↔t∈l/\¬Used es tl es.length pt t:=by
 unfold unus
 rw[List.mem_filter]
 exact⟨fun⟨a,b⟩=>⟨a,@of_decide_eq_true _ (Classical.propDecidable _) b⟩,fun⟨a,b⟩=>⟨a,@decide_eq_true _ (Classical.propDecidable _) b⟩⟩
theorem unus_in{es:List (Nat×Nat)}{tl:List (Option Nat)}{pt x i:Nat}{l:List Nat}(hx:l[i]?=some x)(h:¬Used es tl es.length pt x):unus es tl pt (l.take (i+1))=unus es tl pt (l.take i)++[x]:=by
 unfold unus
 rw[List.take_add_one,hx]
 show List.filter _ (l.take i++[x])=_
 rw[List.filter_append,List.filter_cons,if_pos (@decide_eq_true _ (Classical.propDecidable _) h)]
 rfl
theorem unus_out{es:List (Nat×Nat)}{tl:List (Option Nat)}{pt x i:Nat}{l:List Nat}(hx:l[i]?=some x)(h:Used es tl es.length pt x):unus es tl pt (l.take (i+1))=unus es tl pt (l.take i):=by
 unfold unus
 rw[List.take_add_one,hx]
 show List.filter _ (l.take i++[x])=_
 rw[List.filter_append,List.filter_cons,if_neg (fun z=>absurd h (@of_decide_eq_true _ (Classical.propDecidable _) z))]
 simp
theorem unus_len(es:List (Nat×Nat))(tl:List (Option Nat))(pt:Nat)(l:List Nat):(unus es tl pt l).length<=l.length:=List.length_filter_le _ _
theorem frees_mem{es:List (Nat×Nat)}{tl:List (Option Nat)}{pt t m:Nat}:t∈frees es tl pt m↔t<m/\¬Used es tl es.length pt t:=by
 show t∈unus es tl pt (List.range m)↔_
 rw[unus_mem,List.mem_range]
noncomputable def both(es:List (Nat×Nat))(tl:List (Option Nat))(a b m:Nat):List Nat:=unus es tl b (frees es tl a m)
theorem both_mem{es:List (Nat×Nat)}{tl:List (Option Nat)}{a b t m:Nat}:t∈both es tl a b m↔t<m/\¬Used es tl es.length a t/\¬Used es tl es.length b t:=by
 unfold both
 rw[unus_mem,frees_mem,and_assoc]
theorem nl_inv{l:List Nat}{i:Nat}{x:V}(h:(nl l)[i]?=some x):∃y:Nat,l[i]?=some y/\x= .int (y:Int):=by
 unfold nl at h
 rw[List.getElem?_map]at h
 cases e:l[i]? with
 |none=>rw[e]at h;cases h
 |some y=>rw[e]at h;cases h;exact⟨y,rfl,rfl⟩
section
variable{P:Program}{w:World}{K:PySem.W.Frag}{mg:Str->Option Value}{base:Heap}
inductive spFb(vs:List V)(H:Hp)(Q:VK)(_z3:XK):Prop
 |mk (p r:Addr) (n:Nat) (q:Addr) (ts:List V) (es:List (Nat×Nat)) (tl:List (Option Nat)) (a b m:Nat) (_:vs=[.ref p,.ref r,.int (a:Int),.int (b:Int),.int (m:Int)]) (_:NetZ H p n q ts es) (_:H r=some (.tup (tv tl))) (_:tl.length=es.length) (_:m<=1000) (_:∀H' t,Same H H'->H' t=some (.tup (nl (both es tl a b m)))->Q (.ref t) H')
theorem ndFb:(["tint","taken"]:List Str).Nodup:=by decide+kernel
theorem scFb:FnScope nFb ["net","tints","one","other","many"] (defScope sFb):=⟨rfl,rfl,rfl,by decide+kernel,rfl,by decide+kernel,by decide+kernel⟩
theorem blkFb{f:Addr}{cdv:Value}{A:Around}{outer:List Env}{s:Shared}{H:Hp}{E:XK}:
  Blk (cxOf CX0 P w K mg base nFb "free_at_both" (defScope sFb) f cdv A outer s H E).nox fbScope [("taken",s.heap.objs.size+1)] ["tint","taken"] [none,some 5]:=by
 refine⟨rfl,rfl,by decide+kernel,by decide+kernel,fun p hp=>?_,fun y hy e=>?_,⟨rfl,rfl,rfl⟩,trivial⟩
 ·rw[List.mem_singleton.mp hp]
  rfl
 ·have hy':y∈[((PySem.Str.ofString ".0":Str),NameKind.local),(PySem.Str.ofString "tint",.local),(PySem.Str.ofString "taken",.free)]:=hy
  simp only[List.mem_cons,List.not_mem_nil,or_false]at hy'
  rcases hy' with rfl|rfl|rfl<;>first|rfl|cases e
theorem ok_fb{f:Addr}{fd:FuncData}(F:Fun K "free_at_both" "free_at_both" sFb f fd)(T:Bi mg)(FA:FnE P w K mg base "tints_at" ["net","tints","point"] 2 (spTa P w))(FF:FnE P w K mg base "free_tints" ["net","tints","point","many"] 2 spFt):FnOk P w K mg base CX0 3 f fd ["net","tints","one","other","many"] spFb:=by
 refine F.ok scFb (fun vs H Q E h=>?_) (fun cdv A outer s H vs Q E hr h=>?_)
 ·obtain⟨p,r,n,q,ts,es,tl,a,b,m,rfl,_⟩:=h
  rfl
 ·obtain⟨p,r,n,qa,ts,es,tl,a,b,m,rfl,N,hR,htl,hm,q⟩:=h
  refine⟨_,pss_cons (ps_set (i:=5) scFb.nd rfl (Or.inr rfl) (pe_fc FA hr (pa_c (pv 0) (pa_c (pv 1) (pa_c (pv 3) pa_nil)))))
   (pss_one (ps_ret (pe_callTy call_tuple_ofS rfl T.tuple bTuple (pa_c (pe_lcT blkFb rfl (pe_fc FF hr (pa_c (pv 0) (pa_c (pv 1) (pa_c (pv 2) (pa_c (pv 4) pa_nil))))) (mono_call mono_ft (monoA_cons (mono_var 0) (monoA_cons (mono_var 1) (monoA_cons (mono_var 2) (monoA_cons (mono_var 4) monoA_nil)))))
    (fun C fp s H=>pg_name (i:=0) ndFb rfl (Or.inl rfl)) (fun C fp s H=>pts_one (pt_cmp (pc_dnotinNK (P:=P) (w:=w) rfl rfl (pv 0) (pv 1)))) (fun C fp s H=>pv 0)) pa_nil)))),?_⟩
  refine⟨_,rfl,_,rfl,_,rfl,p,r,n,qa,ts,es,tl,b,rfl,N,hR,htl,fun H1 d kvs s1 hd hkv=>?_⟩
  refine⟨_,rfl,_,rfl,_,rfl,_,rfl,p,r,n,qa,ts,es,tl,a,m,rfl,N.same s1,s1 _ _ hR,htl,hm,fun H2 t s2 ht=>?_⟩
  have hfl:=frees_len es tl a m
  refine⟨t,_,rfl,SqT.of ht,(by rw[nl_len];omega),fun i ys σ H'=>Same H2 H'/\ys=nl (unus es tl b ((frees es tl a m).take i))/\∃v0,σ=[v0,some (.ref d)],⟨Same.refl _,rfl,none,rfl⟩,fun i ys σ H' hi⟨sH,e,_⟩=>⟨SqT.of (sH _ _ ht),?_⟩,fun i x ys σ H' hx xq1=>?_,fun ys σ H' xq1 l H3 s3 hl=>?_⟩
  ·subst e
   rw[nl_len]
   refine Nat.le_trans (unus_len _ _ _ _) ?_
   rw[List.length_take]
   omega
  ·obtain⟨sH,e1,v0,e⟩:=xq1
   subst e1 e
   obtain⟨y,hy,rfl⟩:=nl_inv hx
   refine⟨_,rfl,_,rfl,d,kvs,some (y:Int),rfl,rfl,sH _ _ (s2 _ _ hd),_,rfl,?_⟩
   refine ite2 (fun hz=>?_) (fun hz=>?_)
   ·have hu:¬Used es tl es.length b y:=fun z=>by rw[(hkv y).mpr z]at hz;cases hz
    exact⟨_,rfl,sH,by rw[unus_in hy hu,<-nl_app],_,rfl⟩
   ·have hu:Used es tl es.length b y:=(hkv y).mp (by
     cases z:(valV kvs (some (y:Int))).isSome with
     |true=>rfl
     |false=>rw[z]at hz;exact absurd rfl hz)
    exact⟨sH,by rw[unus_out hy hu],_,rfl⟩
  ·obtain⟨sH,e1,_⟩:=xq1
   subst e1
   rw[nl_len,List.take_length]at hl
   exact⟨l,_,rfl,.inl hl,fun t' H4 s4 ht'=>q H4 t' (Same.trans (Same.trans (Same.trans (Same.trans s1 s2) sH) s3) s4) ht'⟩
end
end My
namespace L2
open PySem PySem.Spec PyProof.Rows
structure MeE(P:Program)(w:World)(K:PySem.W.Frag)(mg:Str->Option Value)(base:Heap)(C:Addr)(m:Str)(ps:List Str)(k:Nat)(sp:Sp):Prop where
 ex:∃f fd,FnOk P w K mg base CX0 k f fd ps sp/\Meth K C m f/\Cls K C/\Binds K fd ps []
theorem MeE.mono{P:Program}{w:World}{K:PySem.W.Frag}{mg:Str->Option Value}{base:Heap}{C:Addr}{x:Str}{ps:List Str}{j k:Nat}{sp:Sp}(F:MeE P w K mg base C x ps j sp)(h:j<=k):MeE P w K mg base C x ps k sp:=
 let⟨f,fd,a,b⟩:=F.ex;⟨f,fd,a.mono h,b⟩
theorem pe_me{X:Cx}{C:Addr}{m:Str}{ps:List Str}{k:Nat}{sp:Sp}{o e:Expr}{es:List Expr}{ta:TE}{t:TA}{apos pos:Pos}{pl:Sem Bool}(F:MeE X.prog X.w X.K X.mg X.base C m ps k sp)(hr:Room k X.A)(he:PE X o ta)(ha:PA X (e::es) t)
  (h1:plainE e=true:=by rfl)(h2:es.all plainE=true:=by rfl)
  (ht:eval (.Call (.Attribute o m apos) (e::es) [] pos) X.env=(do
   let ov<-eval o X.env
   standAt apos.atName
   let(f,first)<-holding [ov] (getMethod ov m pl)
   callWith pos f first (backTo pos (starEach (e::es) X.env)) (backToKw pos (keywordEach [] X.env))):=by rfl):
  PE X (.Call (.Attribute o m apos) (e::es) [] pos) (tMeth C m sp [] E0 ta t):=
 let⟨_,_,a,b,c,d⟩:=F.ex;pe_meth (pl:=pl) he c b a hr d .nil pass0 ha (star_cons h1) (star_any h2) ht
end L2
namespace Sd
def put{α:Type}(f:Nat->α)(k:Nat)(v:α):Nat->α:=fun i=>if i=k then v else f i
theorem put_same{α:Type}(f:Nat->α)(k:Nat)(v:α):put f k v k=v:=by unfold put;rw[if_pos rfl]
theorem put_ne{α:Type}(f:Nat->α){k i:Nat}(v:α)(h:i≠k):put f k v i=f i:=by unfold put;rw[if_neg h]
def tint(d:Nat):Int:=((d%2:Nat):Int)
theorem tint_succ(d:Nat):tint (d+1)=1-tint d:=by unfold tint;omega
theorem tint_eq{a b:Nat}(h:tint a=tint b):a%2=b%2:=by unfold tint at h;omega
structure Shut(adjL:Nat->List Nat)(V0:Nat->Prop)(row:Nat->Option Int):Prop where
 vis:∀x,row x≠none↔V0 x
 cl:∀x,V0 x->∀y∈adjL x,V0 y/\row y≠row x
structure BF(adjL:Nat->List Nat)(V0:Nat->Prop)(row0:Nat->Option Int)(n root:Nat)(row:Nat->Option Int)(above:Nat->Option Nat)(wt:List Nat)(pl:Nat)(dep:Nat->Nat):Prop where
 sym:∀x y,y∈adjL x->x∈adjL y
 bnd:∀x y,y∈adjL x->y<n
 shut:Shut adjL V0 row0
 old:∀x,V0 x->row x=row0 x
 nd:wt.Nodup
 lt:∀x∈wt,x<n
 hd:wt[0]?=some root
 vis:∀x,row x≠none↔V0 x\/x∈wt
 disj:∀x∈wt,¬V0 x
 col:∀x∈wt,row x=some (tint (dep x))
 d0:dep root=0
 par:∀x∈wt,x≠root->∃y,y∈wt/\above x=some y/\x∈adjL y/\dep x=dep y+1
 mono:∀(i j x y:Nat),i<=j->wt[i]?=some x->wt[j]?=some y->dep x<=dep y
 near:∀(i x p:Nat),wt[pl]?=some p->wt[i]?=some x->dep x<=dep p+1
 done:∀(i x:Nat),i<pl->wt[i]?=some x->∀y∈adjL x,y∈wt/\row y≠row x/\dep y<=dep x+1
def Part(adjL:Nat->List Nat)(row:Nat->Option Int)(wt:List Nat)(dep:Nat->Nat)(p k:Nat):Prop:=∀y∈(adjL p).take k,y∈wt/\row y≠row p/\dep y<=dep p+1
section
variable{adjL:Nat->List Nat}{V0:Nat->Prop}{row0 row:Nat->Option Int}{n root:Nat}{above:Nat->Option Nat}{wt:List Nat}{pl:Nat}{dep:Nat->Nat}
theorem BF.start(sym:∀x y,y∈adjL x->x∈adjL y) (bnd:∀x y,y∈adjL x->y<n) (S:Shut adjL V0 row0) (hr:row0 root=none) (hn:root<n):BF adjL V0 row0 n root (put row0 root (some 0)) above [root] 0 (fun _=>0):=by
 have nv:¬V0 root:=fun h=>(S.vis root).mpr h hr
 refine⟨sym,bnd,S,fun x h=>put_ne _ _ (fun z=>nv (z▸h)),List.nodup_cons.mpr ⟨List.not_mem_nil,List.nodup_nil⟩,fun x h=>by rw[List.mem_singleton.mp h];exact hn,rfl,fun x=>?_,fun x h=>by rw[List.mem_singleton.mp h];exact nv,fun x h=>by rw[List.mem_singleton.mp h,put_same];rfl,rfl,fun x h z=>absurd (List.mem_singleton.mp h) z,fun _ _ _ _ _ _ _=>Nat.le_refl _,fun _ _ _ _ _=>Nat.zero_le _,fun i x h=>absurd h (Nat.not_lt_zero _)⟩
 by_cases e:x=root
 ·subst e
  rw[put_same]
  exact⟨fun _=> .inr (.head _),fun _ z=>by cases z⟩
 ·rw[put_ne _ _ e,S.vis x]
  exact⟨.inl,fun h=>h.elim id fun z=>absurd (List.mem_singleton.mp z) e⟩
theorem BF.known(B:BF adjL V0 row0 n root row above wt pl dep){p y:Nat}(hp:p∈wt)(hy:y∈adjL p)(h:row y≠none):y∈wt:=by
 rcases(B.vis y).mp h with z|z
 ·exact absurd (B.shut.cl y z p (B.sym p y hy)).1 (B.disj p hp)
 ·exact z
theorem BF.skip(B:BF adjL V0 row0 n root row above wt pl dep){p y:Nat}(hp:wt[pl]?=some p)(hy:y∈adjL p)(h:row y≠none)(hne:row y≠row p):y∈wt/\row y≠row p/\dep y<=dep p+1:=by
 have hw:=B.known (List.mem_of_getElem? hp) hy h
 obtain⟨i,hi,e⟩:=List.getElem_of_mem hw
 exact⟨hw,hne,B.near i y p hp (by rw[List.getElem?_eq_getElem hi,e])⟩
theorem BF.clash(B:BF adjL V0 row0 n root row above wt pl dep){p y:Nat}(hp:wt[pl]?=some p)(hy:y∈adjL p)(h:row y=row p):y∈wt/\dep y=dep p:=by
 have hpw:=List.mem_of_getElem? hp
 have hc:=B.col p hpw
 have hw:=B.known hpw hy (by rw[h,hc];intro z;cases z)
 refine⟨hw,?_⟩
 obtain⟨i,hi,e⟩:=List.getElem_of_mem hw
 have e':wt[i]?=some y:=by rw[List.getElem?_eq_getElem hi,e]
 have h1:=B.near i y p hp e'
 have hpar:dep y%2=dep p%2:=by
  rw[B.col y hw,hc]at h
  exact tint_eq (Option.some.inj h)
 by_cases hlt:i<pl
 ·exact absurd h.symm (B.done i y hlt e' p (B.sym p y hy)).2.1
 ·have h2:=B.mono pl i p y (by omega) hp e'
  omega
theorem BF.add(B:BF adjL V0 row0 n root row above wt pl dep){p y:Nat}(hp:wt[pl]?=some p)(hy:y∈adjL p)(h:row y=none):
  BF adjL V0 row0 n root (put row y (some (1-tint (dep p)))) (put above y (some p)) (wt++[y]) pl (put dep y (dep p+1)):=by
 have hpw:=List.mem_of_getElem? hp
 have hyw:y ∉ wt:=fun z=>(B.vis y).mpr (.inr z) h
 have hyv:¬V0 y:=fun z=>(B.vis y).mpr (.inl z) h
 have ne:∀x,x∈wt->x≠y:=fun x hx z=>hyw (z▸hx)
 have hr:root∈wt:=List.mem_of_getElem? B.hd
 have dx:∀x,x∈wt->put dep y (dep p+1) x=dep x:=fun x hx=>put_ne _ _ (ne x hx)
 have pll:pl<wt.length:=(List.getElem?_eq_some_iff.mp hp).1
 have get:∀(i x:Nat),(wt++[y])[i]?=some x->(i<wt.length/\wt[i]?=some x)\/(i=wt.length/\x=y):=fun i x e=>by
  by_cases hi:i<wt.length
  ·rw[List.getElem?_append_left hi]at e
   exact .inl ⟨hi,e⟩
  ·rw[List.getElem?_append_right (by omega)]at e
   have hl:=(List.getElem?_eq_some_iff.mp e).1
   rw[List.length_singleton]at hl
   have:i=wt.length:=by omega
   subst this
   rw[Nat.sub_self]at e
   cases e
   exact .inr ⟨rfl,rfl⟩
 have getp:∀q,(wt++[y])[pl]?=some q->q=p:=fun q e=>by
  rw[List.getElem?_append_left pll,hp]at e
  cases e
  rfl
 refine⟨B.sym,B.bnd,B.shut,fun x hx=>?_,?_,fun x hx=>?_,?_,fun x=>?_,fun x hx=>?_,fun x hx=>?_,?_,fun x hx hne=>?_,fun i j x z hij e1 e2=>?_,fun i x q e1 e2=>?_,fun i x hi e z hz=>?_⟩
 ·rw[put_ne _ _ (show x≠y from fun z=>hyv (by rw[<-z];exact hx))]
  exact B.old x hx
 ·rw[List.nodup_append]
  exact⟨B.nd,List.nodup_cons.mpr ⟨List.not_mem_nil,List.nodup_nil⟩,fun a ha b hb z=>ne a ha (z.trans (List.mem_singleton.mp hb))⟩
 ·rcases List.mem_append.mp hx with z|z
  ·exact B.lt x z
  ·rw[List.mem_singleton.mp z]
   exact B.bnd p y hy
 ·rw[List.getElem?_append_left (by omega)]
  exact B.hd
 ·by_cases e:x=y
  ·subst e
   rw[put_same]
   exact⟨fun _=> .inr (List.mem_append_right _ (.head _)),fun _ z=>by cases z⟩
  ·rw[put_ne _ _ e,B.vis x]
   refine⟨fun z=>z.imp id fun z=>List.mem_append_left _ z,fun z=>z.imp id fun z=>?_⟩
   rcases List.mem_append.mp z with z|z
   ·exact z
   ·exact absurd (List.mem_singleton.mp z) e
 ·rcases List.mem_append.mp hx with z|z
  ·exact B.disj x z
  ·rw[List.mem_singleton.mp z]
   exact hyv
 ·rcases List.mem_append.mp hx with z|z
  ·rw[put_ne _ _ (ne x z),dx x z]
   exact B.col x z
  ·rw[List.mem_singleton.mp z,put_same,put_same,tint_succ]
 ·rw[dx root hr]
  exact B.d0
 ·rcases List.mem_append.mp hx with z|z
  ·obtain⟨q,q1,q2,q3,q4⟩:=B.par x z hne
   exact⟨q,List.mem_append_left _ q1,by rw[put_ne _ _ (ne x z)];exact q2,q3,by rw[dx x z,dx q q1];exact q4⟩
  ·rw[List.mem_singleton.mp z]
   exact⟨p,List.mem_append_left _ hpw,put_same _ _ _,hy,by rw[put_same,dx p hpw]⟩
 ·rcases get i x e1 with⟨l1,f1⟩|⟨l1,f1⟩
  ·have hxw:=List.mem_of_getElem? f1
   rw[dx x hxw]
   rcases get j z e2 with⟨l2,f2⟩|⟨l2,f2⟩
   ·rw[dx z (List.mem_of_getElem? f2)]
    exact B.mono i j x z hij f1 f2
   ·rw[f2,put_same]
    exact B.near i x p hp f1
  ·rcases get j z e2 with⟨l2,f2⟩|⟨l2,f2⟩
   ·omega
   ·rw[f1,f2]
    exact Nat.le_refl _
 ·rw[getp q e1,dx p hpw]
  rcases get i x e2 with⟨l1,e2⟩|⟨l1,rfl⟩
  ·rw[dx x (List.mem_of_getElem? e2)]
   exact B.near i x p hp e2
  ·rw[put_same]
   exact Nat.le_refl _
 ·rcases get i x e with⟨l1,e⟩|⟨l1,_⟩
  ·have hxw:=List.mem_of_getElem? e
   obtain⟨h1,h2,h3⟩:=B.done i x hi e z hz
   refine⟨List.mem_append_left _ h1,?_,?_⟩
   ·rw[put_ne _ _ (ne z h1),put_ne _ _ (ne x hxw)]
    exact h2
   ·rw[dx z h1,dx x hxw]
    exact h3
  ·omega
theorem Part.add(B:BF adjL V0 row0 n root row above wt pl dep){p y k:Nat}(hp:wt[pl]?=some p)(hk:(adjL p)[k]?=some y)(h:row y=none)(A:Part adjL row wt dep p k):
  Part adjL (put row y (some (1-tint (dep p)))) (wt++[y]) (put dep y (dep p+1)) p (k+1):=by
 have hpw:=List.mem_of_getElem? hp
 have hyw:y ∉ wt:=fun z=>(B.vis y).mpr (.inr z) h
 have ne:∀x,x∈wt->x≠y:=fun x hx z=>hyw (z▸hx)
 intro z hz
 rw[List.take_add_one,hk]at hz
 rw[put_ne (i:=p) _ _ (ne p hpw),put_ne (i:=p) _ _ (ne p hpw)]
 rcases List.mem_append.mp hz with hz|hz
 ·obtain⟨h1,h2,h3⟩:=A z hz
  rw[put_ne _ _ (ne z h1),put_ne _ _ (ne z h1)]
  exact⟨List.mem_append_left _ h1,h2,h3⟩
 ·rw[List.mem_singleton.mp (show z∈[y]from hz),put_same,put_same]
  refine⟨List.mem_append_right _ (.head _),?_,Nat.le_refl _⟩
  rw[B.col p hpw]
  intro q
  have:=Option.some.inj q
  unfold tint at this
  omega
theorem Part.skip(B:BF adjL V0 row0 n root row above wt pl dep){p y k:Nat}(hp:wt[pl]?=some p)(hk:(adjL p)[k]?=some y)(h:row y≠none)(hne:row y≠row p)(A:Part adjL row wt dep p k):Part adjL row wt dep p (k+1):=by
 intro z hz
 rw[List.take_add_one,hk]at hz
 rcases List.mem_append.mp hz with hz|hz
 ·exact A z hz
 ·rw[List.mem_singleton.mp (show z∈[y]from hz)]
  exact B.skip hp (List.mem_of_getElem? hk) h hne
theorem BF.next(B:BF adjL V0 row0 n root row above wt pl dep){p:Nat}(hp:wt[pl]?=some p)(A:Part adjL row wt dep p (adjL p).length):BF adjL V0 row0 n root row above wt (pl+1) dep:=by
 refine{B with near:=fun i x q e1 e2=>?_,done:=fun i x hi e y hy=>?_}
 ·have h1:=B.near i x p hp e2
  have h2:=B.mono pl (pl+1) p q (by simp) hp e1
  omega
 ·by_cases h:i<pl
  ·exact B.done i x h e y hy
  ·have:i=pl:=by omega
   subst this
   rw[hp]at e
   cases e
   exact A y (by rw[List.take_length];exact hy)
theorem BF.finish(B:BF adjL V0 row0 n root row above wt pl dep)(hl:wt.length<=pl):Shut adjL (fun x=>V0 x\/x∈wt) row:=by
 refine⟨B.vis,fun x hx y hy=>?_⟩
 rcases hx with hx|hx
 ·obtain⟨h1,h2⟩:=B.shut.cl x hx y hy
  exact⟨.inl h1,by rw[B.old x hx,B.old y h1];exact h2⟩
 ·obtain⟨i,hi,e⟩:=List.getElem_of_mem hx
  obtain⟨h1,h2,_⟩:=B.done i x (by omega) (by rw[List.getElem?_eq_getElem hi,e]) y hy
  exact⟨.inr h1,h2⟩
theorem BF.zero(B:BF adjL V0 row0 n root row above wt pl dep){x:Nat}(hx:x∈wt)(h:dep x=0):x=root:=by
 by_cases e:x=root
 ·exact e
 ·obtain⟨y,_,_,_,h4⟩:=B.par x hx e
  omega
end
def it(par:Nat->Nat)(x:Nat):Nat->Nat
 |0=>x
 |i+1=>par (it par x i)
def parOf(above:Nat->Option Nat)(x:Nat):Nat:=(above x).getD 0
section
variable{adjL:Nat->List Nat}{V0:Nat->Prop}{row0 row:Nat->Option Int}{n root:Nat}{above:Nat->Option Nat}{wt:List Nat}{pl:Nat}{dep:Nat->Nat}
theorem BF.up(B:BF adjL V0 row0 n root row above wt pl dep){x:Nat}(hx:x∈wt):∀i,i<=dep x->it (parOf above) x i∈wt/\dep (it (parOf above) x i)+i=dep x
 |0,_=>⟨hx,rfl⟩
 |i+1,h=>by
  obtain⟨h1,h2⟩:=B.up hx i (by omega)
  have ne:it (parOf above) x i≠root:=fun z=>by rw[z,B.d0]at h2;omega
  obtain⟨y,y1,y2,y3,y4⟩:=B.par _ h1 ne
  have e:it (parOf above) x (i+1)=y:=by show(above (it (parOf above) x i)).getD 0=y;rw[y2];rfl
  rw[e]
  exact⟨y1,by omega⟩
theorem BF.upTie(B:BF adjL V0 row0 n root row above wt pl dep){x:Nat}(hx:x∈wt)(i:Nat)(h:i<dep x):above (it (parOf above) x i)=some (it (parOf above) x (i+1))/\it (parOf above) x i∈adjL (it (parOf above) x (i+1)):=by
 obtain⟨h1,h2⟩:=B.up hx i (by omega)
 have ne:it (parOf above) x i≠root:=fun z=>by rw[z,B.d0]at h2;omega
 obtain⟨y,y1,y2,y3,y4⟩:=B.par _ h1 ne
 have e:it (parOf above) x (i+1)=y:=by show(above (it (parOf above) x i)).getD 0=y;rw[y2];rfl
 rw[e]
 exact⟨y2,y3⟩
theorem BF.upEnd(B:BF adjL V0 row0 n root row above wt pl dep){x:Nat}(hx:x∈wt):it (parOf above) x (dep x)=root:=by
 obtain⟨h1,h2⟩:=B.up hx (dep x) (Nat.le_refl _)
 exact B.zero h1 (by omega)
def ring(par:Nat->Nat)(a b m:Nat):List Nat:=(List.range (m+1)).map (it par a)++((List.range m).map (it par b)).reverse
theorem ring_get(par:Nat->Nat)(a b m k:Nat)(h:k<2*m+1):(ring par a b m).getD k 0=if k<=m then it par a k else it par b (2*m-k):=by
 unfold ring
 rw[List.getD_eq_getElem?_getD]
 by_cases hk:k<=m
 ·rw[if_pos hk,List.getElem?_append_left (by rw[List.length_map,List.length_range];omega),List.getElem?_map,List.getElem?_range (by omega)]
  rfl
 ·rw[if_neg hk,List.getElem?_append_right (by rw[List.length_map,List.length_range];omega),List.getElem?_reverse (by rw[List.length_map,List.length_map,List.length_range,List.length_range];omega),List.getElem?_map,List.length_map,List.length_map,List.length_range,List.length_range,List.getElem?_range (by omega)]
  show it par b _=_
  congr 1
  omega
theorem BF.ring_ok(B:BF adjL V0 row0 n root row above wt pl dep){a b m:Nat}(ha:a∈wt)(hb:b∈wt)(hd:dep b=dep a)(hab:a≠b)(tie:b∈adjL a)(hm:m<=dep a)(meet:it (parOf above) a m=it (parOf above) b m)(first:∀i,i<m->it (parOf above) a i≠it (parOf above) b i):
  1<=m/\(∀x∈ring (parOf above) a b m,x<n)/\(ring (parOf above) a b m).Nodup/\∀k,k<2*m+1->(ring (parOf above) a b m).getD k 0∈adjL ((ring (parOf above) a b m).getD (if k=0 then 2*m else k-1) 0):=by
 have m1:1<=m:=by
  cases m with
  |zero=>exact absurd meet hab
  |succ m=>omega
 refine⟨m1,fun x hx=>?_,?_,fun k hk=>?_⟩
 ·rcases List.mem_append.mp hx with h|h
  ·obtain⟨i,hi,rfl⟩:=List.mem_map.mp h
   rw[List.mem_range]at hi
   exact B.lt _ (B.up ha i (by omega)).1
  ·rw[List.mem_reverse]at h
   obtain⟨i,hi,rfl⟩:=List.mem_map.mp h
   rw[List.mem_range]at hi
   exact B.lt _ (B.up hb i (by omega)).1
 ·unfold ring
  rw[List.nodup_append]
  refine⟨?_,?_,fun x hx y hy e=>?_⟩
  ·rw[List.Nodup,List.pairwise_map]
   refine List.Pairwise.imp_of_mem (fun{i j} hi hj h=>?_) (List.nodup_range (n:=m+1))
   rw[List.mem_range]at hi hj
   intro z
   have h1:=(B.up ha i (by omega)).2
   have h2:=(B.up ha j (by omega)).2
   rw[z]at h1
   exact h (by omega)
  ·rw[List.Nodup,List.pairwise_reverse,List.pairwise_map]
   refine List.Pairwise.imp_of_mem (fun{i j} hi hj h=>?_) (List.nodup_range (n:=m))
   rw[List.mem_range]at hi hj
   intro z
   have h1:=(B.up hb i (by omega)).2
   have h2:=(B.up hb j (by omega)).2
   rw[<-z]at h1
   exact h (by omega)
  ·obtain⟨i,hi,rfl⟩:=List.mem_map.mp hx
   rw[List.mem_reverse]at hy
   obtain⟨j,hj,rfl⟩:=List.mem_map.mp hy
   rw[List.mem_range]at hi hj
   have h1:=(B.up ha i (by omega)).2
   have h2:=(B.up hb j (by omega)).2
   rw[e]at h1
   have:i=j:=by omega
   subst this
   exact first i hj e
 ·rw[ring_get _ _ _ _ _ hk,ring_get _ _ _ _ _ (by split<;>omega)]
  by_cases h0:k=0
  ·subst h0
   rw[if_pos rfl,if_pos (Nat.zero_le _),if_neg (by omega),Nat.sub_self]
   exact B.sym _ _ tie
  ·rw[if_neg h0]
   by_cases h1:k<=m
   ·rw[if_pos h1,if_pos (by omega)]
    have h:=(B.upTie ha (k-1) (by omega)).2
    rw[show k-1+1=k by omega]at h
    exact B.sym _ _ h
   ·rw[if_neg h1]
    have h:=(B.upTie hb (2*m-k) (by omega)).2
    by_cases h2:k-1<=m
    ·rw[if_pos h2]
     have e:k-1=m:=by omega
     rw[e,meet]
     rw[show 2*m-k+1=m by omega]at h
     exact h
    ·rw[if_neg h2]
     rw[show 2*m-k+1=2*m-(k-1) by omega]at h
     exact h
end
def Conn(adjL:Nat->List Nat)(x y:Nat):Prop:=∀L:Nat->Nat,(∀u v,v∈adjL u->L u=L v)->L x=L y
structure Out(adjL:Nat->List Nat)(V:Nat->Prop)(row:Nat->Option Int)(rt:Nat->Nat)(r:Nat):Prop where
 shut:Shut adjL V row
 all:∀x,x<r->V x
 bit:∀x,V x->row x=some 0\/row x=some 1
 zero:∀x,V x->row (rt x)=some 0
 low:∀x,V x->rt x<=x
 conn:∀x,V x->Conn adjL x (rt x)
 next:∀x,V x->∀y∈adjL x,rt y=rt x
section
variable{adjL:Nat->List Nat}{V0:Nat->Prop}{row0 row:Nat->Option Int}{n root:Nat}{above:Nat->Option Nat}{wt:List Nat}{pl:Nat}{dep:Nat->Nat}{rt:Nat->Nat}
theorem Out.start:Out adjL (fun _=>False) (fun _=>none) (fun x=>x) 0:=
 ⟨⟨fun x=>⟨fun h=>h rfl,fun h=>h.elim⟩,fun x h=>h.elim⟩,fun x h=>absurd h (Nat.not_lt_zero _),fun x h=>h.elim,fun x h=>h.elim,fun x h=>h.elim,fun x h=>h.elim,fun x h=>h.elim⟩
theorem Out.skip(O:Out adjL V0 row rt root)(h:row root≠none):Out adjL V0 row rt (root+1):=by
 refine{O with all:=fun x hx=>?_}
 by_cases e:x=root
 ·rw[e]
  exact(O.shut.vis root).mp h
 ·exact O.all x (by omega)
theorem BF.conn(B:BF adjL V0 row0 n root row above wt pl dep){x:Nat}(hx:x∈wt):Conn adjL x root:=by
 intro L hL
 have h:∀i,i<=dep x->L x=L (it (parOf above) x i):=by
  intro i
  induction i with
  |zero=>intro _;rfl
  |succ i ih=>
   intro hi
   rw[ih (by omega)]
   exact(hL _ _ (B.upTie hx i (by assumption)).2).symm
 rw[h (dep x) (Nat.le_refl _),B.upEnd hx]
theorem Out.walk(O:Out adjL V0 row0 rt root)(B:BF adjL V0 row0 n root row above wt pl dep)(hl:wt.length<=pl):∃rt',Out adjL (fun x=>V0 x\/x∈wt) row rt' (root+1):=by
 have hr:root∈wt:=List.mem_of_getElem? B.hd
 have nv:∀x,V0 x->x ∉ wt:=fun x h z=>B.disj x z h
 have S:=B.finish hl
 refine⟨fun x=>if x∈wt then root else rt x,S,fun x hx=>?_,fun x hx=>?_,fun x hx=>?_,fun x hx=>?_,fun x hx=>?_,fun x hx y hy=>?_⟩
 ·by_cases e:x=root
  ·rw[e];exact .inr hr
  ·exact .inl (O.all x (by omega))
 ·rcases hx with hx|hx
  ·rw[B.old x hx]
   exact O.bit x hx
  ·rw[B.col x hx]
   unfold tint
   have:dep x%2=0\/dep x%2=1:=by omega
   rcases this with h|h
   ·left;rw[h];rfl
   ·right;rw[h];rfl
 ·rcases hx with hx|hx
  ·skip
   rw[if_neg (nv x hx)]
   have h:=O.zero x hx
   have hv:V0 (rt x):=(O.shut.vis (rt x)).mp (by rw[h];intro z;cases z)
   rw[B.old _ hv]
   exact h
  ·skip
   rw[if_pos hx,B.col root hr,B.d0]
   rfl
 ·rcases hx with hx|hx
  ·skip
   rw[if_neg (nv x hx)]
   exact O.low x hx
  ·skip
   rw[if_pos hx]
   by_cases h:x<root
   ·exact absurd (O.all x h) (B.disj x hx)
   ·omega
 ·rcases hx with hx|hx
  ·skip
   rw[if_neg (nv x hx)]
   exact O.conn x hx
  ·skip
   rw[if_pos hx]
   exact B.conn hx
 ·rcases hx with hx|hx
  ·have hy':=(O.shut.cl x hx y hy).1
   rw[if_neg (nv x hx),if_neg (nv y hy')]
   exact O.next x hx y hy
  ·have hy':y∈wt:=B.known hx hy ((S.vis y).mpr ((S.cl x (.inr hx) y hy).1))
   rw[if_pos hx,if_pos hy']
end
structure Walked where
 clash:Option (Nat×Nat)
 row:Nat->Option Int
 above:Nat->Option Nat
def goN(p:Nat)(k:(Nat->Option Int)->(Nat->Option Nat)->List Nat->Walked):List Nat->(Nat->Option Int)->(Nat->Option Nat)->List Nat->Walked
 |[],r,a,w=>k r a w
 |y::ys,r,a,w=>if r y=none then goN p k ys (put r y (some (1-(r p).getD 0))) (put a y (some p)) (w++[y])else if r y=r p then⟨some (p,y),r,a⟩else goN p k ys r a w
def goW(adjL:Nat->List Nat):Nat->Nat->(Nat->Option Int)->(Nat->Option Nat)->List Nat->Walked
 |0,_,r,a,_=>⟨none,r,a⟩
 |f+1,pl,r,a,w=>match w[pl]? with
  |none=>⟨none,r,a⟩
  |some p=>goN p (goW adjL f (pl+1)) (adjL p) r a w
theorem goW_end(adjL:Nat->List Nat)(f pl:Nat)(r:Nat->Option Int)(a:Nat->Option Nat)(w:List Nat)(h:w.length<=pl):goW adjL f pl r a w=⟨none,r,a⟩:=by
 cases f with
 |zero=>rfl
 |succ f=>unfold goW;rw[List.getElem?_eq_none h]
theorem goW_step(adjL:Nat->List Nat)(f pl p:Nat)(r:Nat->Option Int)(a:Nat->Option Nat)(w:List Nat)(h:w[pl]?=some p):goW adjL (f+1) pl r a w=goN p (goW adjL f (pl+1)) (adjL p) r a w:=by
 show(match w[pl]? with|none=>(⟨none,r,a⟩:Walked)|some p=>goN p (goW adjL f (pl+1)) (adjL p) r a w)=_
 rw[h]
end Sd
namespace Sd
open PySem L2 My
theorem len_of_lt:∀(n:Nat)(l:List Nat),l.Nodup->(∀x∈l,x<n)->l.length<=n
 |0,l,_,h=>by
  cases l with
  |nil=>exact Nat.le_refl _
  |cons x l=>exact absurd (h x (.head _)) (Nat.not_lt_zero _)
 |n+1,l,nd,h=>by
  have h1:=len_of_lt n (l.erase n) (nd.erase n) fun x hx=>by
   have:=(List.Nodup.mem_erase_iff nd).mp hx
   have:=h x this.2
   omega
  by_cases hm:n∈l
  ·rw[List.length_erase_of_mem hm]at h1
   omega
  ·rw[List.erase_of_not_mem hm]at h1
   omega
def ov(f:Nat->Option Int)(i:Nat):V:=match f i with|none=> .non|some v=> .int v
def ol(f:Nat->Option Int)(n:Nat):List V:=(List.range n).map (ov f)
def up1(f:Nat->Option Nat)(i:Nat):Option Int:=(f i).map fun x:Nat=>(x:Int)
theorem ol_len(f:Nat->Option Int)(n:Nat):(ol f n).length=n:=by unfold ol;rw[List.length_map,List.length_range]
theorem ol_get(f:Nat->Option Int){n k:Nat}(h:k<n):(ol f n)[k]?=some (ov f k):=by
 unfold ol
 rw[List.getElem?_map,List.getElem?_range h]
 rfl
theorem ol_set(f:Nat->Option Int)(n k:Nat)(v:Int):(ol f n).set k (.int v)=ol (put f k (some v)) n:=by
 apply List.ext_getElem?
 intro i
 by_cases hi:i<n
 ·rw[ol_get _ hi,List.getElem?_set]
  unfold ov
  by_cases e:k=i
  ·subst e
   rw[if_pos rfl,if_pos (by rw[ol_len];exact hi),put_same]
  ·rw[if_neg e,ol_get _ hi,put_ne _ _ (fun z=>e z.symm)]
   rfl
 ·rw[List.getElem?_eq_none (by rw[List.length_set,ol_len];omega),List.getElem?_eq_none (by rw[ol_len];omega)]
theorem up1_put(f:Nat->Option Nat)(k p:Nat):up1 (put f k (some p))=put (up1 f) k (some (p:Int)):=by
 funext i
 unfold up1 put
 split<;>rfl
theorem ov_none{f:Nat->Option Int}{i:Nat}:ov f i= .non↔f i=none:=by
 unfold ov
 cases h:f i with
 |none=>simp
 |some v=>simp
def nl(l:List Nat):List V:=l.map fun x:Nat=>V.int (x:Int)
theorem nl_get{l:List Nat}{i x:Nat}(h:l[i]?=some x):(nl l)[i]?=some (.int (x:Int)):=by unfold nl;rw[List.getElem?_map,h];rfl
theorem nl_len(l:List Nat):(nl l).length=l.length:=by unfold nl;rw[List.length_map]
structure TiedAt(H:Hp)(Ta:Addr)(tl:List Addr)(adjL:Nat->List Nat)(n:Nat):Prop where
 top:H Ta=some (.lst (tl.map V.ref))
 len:tl.length=n
 row:∀(i:Nat) a,tl[i]?=some a->H a=some (.lst (nl (adjL i)))
def Sm2(x y:Addr)(H H':Hp):Prop:=∀b o,H b=some o->b≠x->b≠y->H' b=some o
structure SpSt(H0 H:Hp)(Ra Aa Wa:Addr)(n:Nat)(row:Nat->Option Int)(above:Nat->Option Nat)(wt:List Nat):Prop where
 r:H Ra=some (.lst (ol row n))
 a:H Aa=some (.lst (ol (up1 above) n))
 w:H Wa=some (.lst (nl wt))
 s:Sm2 Ra Aa H0 H
theorem SpSt.same{H0 H H':Hp}{Ra Aa Wa:Addr}{n:Nat}{row:Nat->Option Int}{above:Nat->Option Nat}{wt:List Nat}(S:SpSt H0 H Ra Aa Wa n row above wt)(h:Same H H'):SpSt H0 H' Ra Aa Wa n row above wt:=
 ⟨h _ _ S.r,h _ _ S.a,h _ _ S.w,fun b o e h1 h2=>h _ _ (S.s b o e h1 h2)⟩
section
variable{P:Program}{w:World}{K:PySem.W.Frag}{mg:Str->Option Value}{base:Heap}{Pt c:Addr}
abbrev sSpr:Stmt:=top 68
abbrev nSpr:List Str:=["tied","row","above","root","waiting","place","point","near"]
inductive spSpr(vs:List V)(H:Hp)(Q:VK)(_z3:XK):Prop
 |mk (Ta Ra Aa:Addr) (tl:List Addr) (adjL:Nat->List Nat) (V0:Nat->Prop) (row0:Nat->Option Int) (above:Nat->Option Nat) (n root:Nat) (_:vs=[.ref Ta,.ref Ra,.ref Aa,.int (root:Int)]) (_:TiedAt H Ta tl adjL n) (_:H Ra=some (.lst (ol (put row0 root (some 0)) n))) (_:H Aa=some (.lst (ol (up1 above) n))) (_:Ra≠Aa) (_:(∀a∈Ta::tl,a≠Ra/\a≠Aa)) (_:n<=60) (_:BF adjL V0 row0 n root (put row0 root (some 0)) above [root] 0 (fun _=>0)) (_:∀(H':Hp)(row':Nat->Option Int)(above':Nat->Option Nat)(wt:List Nat)(pl:Nat)(dep:Nat->Nat),Sm2 Ra Aa H H'->H' Ra=some (.lst (ol row' n))->H' Aa=some (.lst (ol (up1 above') n))->BF adjL V0 row0 n root row' above' wt pl dep->(wt.length<=pl->goW adjL n 0 (put row0 root (some 0)) above [root]=⟨none,row',above'⟩->Q .non H')/\∀(t:Addr)(p y:Nat),goW adjL n 0 (put row0 root (some 0)) above [root]=⟨some (p,y),row',above'⟩->H' t=some (.tup [.int (p:Int),.int (y:Int)])->p∈wt->y∈wt->y∈adjL p->dep y=dep p->Q (.ref t) H')
theorem scSpr:FnScope nSpr ["tied","row","above","root"] (defScope sSpr):=⟨rfl,rfl,rfl,by decide+kernel,rfl,by decide+kernel,by decide+kernel⟩
theorem ok_spr{f:Addr}{fd:FuncData}(F:Fun K "spread" "spread" sSpr f fd)(T:Bi mg):FnOk P w K mg base CX0 1 f fd ["tied","row","above","root"] spSpr:=by
 refine F.ok scSpr (fun vs H Q E h=>?_) (fun cdv A outer s H vs Q E hr h=>?_)
 ·obtain⟨Ta,Ra,Aa,tl,adjL,V0,row0,above,n,root,rfl,_⟩:=h
  rfl
 ·obtain⟨Ta,Ra,Aa,tl,adjL,V0,row0,above0,n,root,rfl,TA,hR0,hA0,hRA,hne,h60,B0,q⟩:=h
  refine⟨_,pss_cons (ps_set (i:=4) scSpr.nd rfl (Or.inl rfl) (pe_lst (pa_c (pv 3) pa_nil)))
   (pss_cons (ps_set (i:=5) scSpr.nd rfl (Or.inl rfl) pe_int)
   (pss_cons (ps_while PassesOwn.never (pt_cmpR op_lt (pv 5) (pe_callB call_len_seq rfl T.len bLen (pa_c (pv 4) pa_nil)) (nomark _))
    (pss_cons (ps_set (i:=6) scSpr.nd rfl (Or.inl rfl) (pe_ix ix_list (pv 4) (pv 5) (fun _ _=>rfl)))
    (pss_cons (ps_aug (i:=5) scSpr.nd rfl (Or.inl rfl) pe_int ip_add)
    (pss_one (ps_for PassesOwn.never rfl (pi_list (pe_ix ix_list (pv 0) (pv 6) (fun _ _=>rfl))) (pg_name (i:=7) scSpr.nd rfl (Or.inl rfl))
     (pss_one (ps_if (pt_cmpR op_isN (pe_ix ix_list (pv 1) (pv 7) (fun _ _=>rfl)) pe_non (nomark _))
      (pss_cons (ps_asg (pe_op op_sub pe_int (pe_ix ix_list (pv 1) (pv 6) (fun _ _=>rfl))) (pg_sub (pv 1) (pv 7) set_listN))
      (pss_cons (ps_asg (pv 6) (pg_sub (pv 2) (pv 7) set_listN))
      (pss_one (ps_expr (pe_bm PySem.F.plainAttrs_list PySem.F.slot_list_append PySem.F.type_list_append mt_append (pv 4) (pa_c (pv 7) pa_nil))))))
      (pss_one (ps_if (pt_cmpR op_eq (pe_ix ix_list (pv 1) (pv 7) (fun _ _=>rfl)) (pe_ix ix_list (pv 1) (pv 6) (fun _ _=>rfl)) (nomark _)) (pss_one (ps_ret (pe_tupS (pa_c (pv 6) (pa_c (pv 7) pa_nil))))) pss_nil))))))))
   ) (pss_one (ps_ret pe_non)))),?_⟩
  refine⟨_,rfl,(by show 1<=sizeLine;decide),fun Wa hW=>?_⟩
  have nR:Wa≠Ra:=fun z=>by rw[z,hR0]at hW;cases hW
  have nA:Wa≠Aa:=fun z=>by rw[z,hA0]at hW;cases hW
  have st0:SpSt H (upd H Wa (.lst [.int (root:Int)])) Ra Aa Wa n (put row0 root (some 0)) above0 [root]:=
   ⟨by rw[upd_ne (Ne.symm nR)];exact hR0,by rw[upd_ne (Ne.symm nA)];exact hA0,by rw[upd_same];rfl,fun b o e _ _=>same_new hW b o e⟩
  have tied:∀{H'},Sm2 Ra Aa H H'->TiedAt H' Ta tl adjL n:=fun{H'} s'=>⟨s' _ _ TA.top (hne Ta (.head _)).1 (hne Ta (.head _)).2,TA.len,fun i a e=>s' _ _ (TA.row i a e) (hne a (.tail _ (List.mem_of_getElem? e))).1 (hne a (.tail _ (List.mem_of_getElem? e))).2⟩
  refine⟨fun m σ H'=>∃row above wt pl dep v6 v7,m=n-pl/\σ=[some (.ref Ta),some (.ref Ra),some (.ref Aa),some (.int (root:Int)),some (.ref Wa),some (.int ((pl:Nat):Int)),v6,v7]/\SpSt H H' Ra Aa Wa n row above wt/\BF adjL V0 row0 n root row above wt pl dep/\goW adjL (n-pl) pl row above wt=goW adjL n 0 (put row0 root (some 0)) above0 [root],
   ⟨_,_,_,_,0,_,none,none,rfl,rfl,st0,B0,rfl⟩,?_⟩
  rintro m σ H' ⟨row,above,wt,pl,dep,v6,v7,rfl,rfl,st,B,hG⟩
  refine⟨_,rfl,_,rfl,Wa,_,rfl,.inl (SqL.of st.w),_,_,rfl,rfl,_,rfl,?_⟩
  have hwn:wt.length<=n:=len_of_lt n wt B.nd B.lt
  refine ite2 (fun hlt=>?_) (fun hlt=>?_)
  ·have hlt':pl<wt.length:=by
    have:=of_decide_eq_true hlt
    rw[nl_len]at this
    omega
   refine⟨fun σ' H'=>∃m',m'<n-pl/\∃row above wt pl dep v6 v7,m'=n-pl/\σ'=[some (.ref Ta),some (.ref Ra),some (.ref Aa),some (.int (root:Int)),some (.ref Wa),some (.int ((pl:Nat):Int)),v6,v7]/\SpSt H H' Ra Aa Wa n row above wt/\BF adjL V0 row0 n root row above wt pl dep/\goW adjL (n-pl) pl row above wt=goW adjL n 0 (put row0 root (some 0)) above0 [root],fun _ _ h=>h,?_⟩
   have hp:wt[pl]?=some wt[pl]:=List.getElem?_eq_getElem hlt'
   generalize hpe:wt[pl]=p at hp
   have hpn:p<n:=B.lt p (List.mem_of_getElem? hp)
   have hpt:p<tl.length:=by rw[TA.len];exact hpn
   have TA1:=tied st.s
   have ra:=TA1.row p tl[p] (List.getElem?_eq_getElem hpt)
   refine⟨_,rfl,_,rfl,Wa,_,_,_,rfl,rfl,SqL.of st.w,atI_nat (nl_get hp),?_⟩
   refine⟨_,rfl,_,_,rfl,rfl,?_⟩
   refine⟨_,rfl,_,rfl,Ta,_,_,.ref tl[p],rfl,rfl,SqL.of TA1.top,atI_nat (by rw[List.getElem?_map,List.getElem?_eq_getElem hpt];rfl),tl[p],rfl,⟨_,SqL.of ra⟩,
    for_list (K:=K) (a:=tl[p]) (xs:=nl (adjL p)) (fun k σ H2=>∃row above wt dep v7,σ=[some (.ref Ta),some (.ref Ra),some (.ref Aa),some (.int (root:Int)),some (.ref Wa),some (.int ((pl:Int)+1)),some (.int (p:Int)),v7]/\SpSt H H2 Ra Aa Wa n row above wt/\BF adjL V0 row0 n root row above wt pl dep/\wt[pl]?=some p/\Part adjL row wt dep p k/\goN p (goW adjL (n-(pl+1)) (pl+1)) ((adjL p).drop k) row above wt=goW adjL n 0 (put row0 root (some 0)) above0 [root])
     ⟨row,above,wt,dep,_,rfl,st,B,hp,(fun y hy=>by rw[List.take_zero]at hy;cases hy),by rw[List.drop_zero,<-goW_step adjL (n-(pl+1)) pl p row above wt hp,show n-(pl+1)+1=n-pl by omega];exact hG⟩ (fun k σ H2 _⟨row,above,wt,dep,v7,_,st2,_⟩=>SqL.of ((tied st2.s).row p tl[p] (List.getElem?_eq_getElem hpt))) (fun k x σ H2 hx xq1=>?_) (fun σ H2 xq1=>?_)⟩
   ·obtain⟨row2,above2,wt2,dep2,v7,e,st2,B2,hp2,A2,hG2⟩:=xq1
    subst e
    obtain⟨y,hy,rfl⟩:∃y,(adjL p)[k]?=some y/\x=V.int (y:Int):=by
     unfold nl at hx
     rw[List.getElem?_map]at hx
     cases z:(adjL p)[k]? with
     |none=>rw[z]at hx;cases hx
     |some y=>rw[z]at hx;cases hx;exact⟨y,rfl,rfl⟩
    have hya:y∈adjL p:=List.mem_of_getElem? hy
    have hdr:(adjL p).drop k=y::(adjL p).drop (k+1):=by
     obtain⟨hk,ek⟩:=List.getElem?_eq_some_iff.mp hy
     rw[<-ek]
     exact List.drop_eq_getElem_cons hk
    rw[hdr]at hG2
    unfold goN at hG2
    have hyn:y<n:=B2.bnd p y hya
    have hpw:=List.mem_of_getElem? hp2
    have rowp:(ol row2 n)[p]?=some (.int (tint (dep2 p))):=by rw[ol_get _ hpn];unfold ov;rw[B2.col p hpw]
    refine⟨_,rfl,_,rfl,Ra,_,_,ov row2 y,rfl,rfl,SqL.of st2.r,atI_nat (ol_get _ hyn),rfl,_,rfl,?_⟩
    refine ite2 (fun hz=>?_) (fun hz=>?_)
    ·have hz':row2 y=none:=ov_none.mp (of_decide_eq_true hz)
     refine⟨_,rfl,_,rfl,Ra,_,_,.int (tint (dep2 p)),rfl,rfl,SqL.of st2.r,atI_nat rowp,_,_,rfl,rfl,_,rfl,_,rfl,Ra,_,y,rfl,rfl,st2.r,by rw[ol_len];exact hyn,?_⟩
     refine⟨_,rfl,_,rfl,_,rfl,Aa,ol (up1 above2) n,y,rfl,rfl,by rw[upd_ne (Ne.symm hRA)];exact st2.a,by rw[ol_len];exact hyn,?_⟩
     have hw3:(upd (upd H2 Ra (.lst ((ol row2 n).set y (.int (1-tint (dep2 p)))))) Aa (.lst ((ol (up1 above2) n).set y (.int (p:Int))))) Wa=some (.lst (nl wt2)):=by rw[upd_ne nA,upd_ne nR];exact st2.w
     have hwl:wt2.length<=n:=len_of_lt n wt2 B2.nd B2.lt
     refine⟨_,rfl,.inl ⟨rfl,_,SqL.of hw3⟩,_,rfl,Wa,_,_,rfl,rfl,hw3,(by rw[nl_len,sizeLine_eq];omega),_,_,_,_,_,rfl,?_,B2.add hp2 hya hz',by rw[List.getElem?_append_left (List.getElem?_eq_some_iff.mp hp2).1];exact hp2,Part.add B2 hp2 hy hz' A2,by rw[if_pos hz',B2.col p hpw]at hG2;exact hG2⟩
     refine⟨?_,?_,?_,fun b o e h1 h2=>?_⟩
     ·rw[upd_ne (Ne.symm nR),upd_ne hRA,upd_same,ol_set]
     ·rw[upd_ne (Ne.symm nA),upd_same,ol_set,up1_put]
     ·rw[upd_same]
      unfold nl
      rw[List.map_append]
      rfl
     ·have h3:b≠Wa:=fun z=>by rw[z,hW]at e;cases e
      rw[upd_ne h3,upd_ne h2,upd_ne h1]
      exact st2.s b o e h1 h2
    ·have hz':row2 y≠none:=fun z=>hz (decide_eq_true (ov_none.mpr z))
     obtain⟨v,hv⟩:∃v,row2 y=some v:=Option.ne_none_iff_exists'.mp hz'
     have rowy:(ol row2 n)[y]?=some (.int v):=by rw[ol_get _ hyn];unfold ov;rw[hv]
     refine⟨_,rfl,_,rfl,Ra,_,_,.int v,rfl,rfl,SqL.of st2.r,atI_nat rowy,_,rfl,_,rfl,Ra,_,_,.int (tint (dep2 p)),rfl,rfl,SqL.of st2.r,atI_nat rowp,rfl,_,rfl,?_⟩
     refine ite2 (fun he=>?_) (fun he=>?_)
     ·have he':row2 y=row2 p:=by
       have:=of_decide_eq_true he
       rw[hv,B2.col p hpw]
       cases this
       rfl
      obtain⟨c1,c2⟩:=B2.clash hp2 hya he'
      refine⟨_,rfl,_,rfl,rfl,fun t H3 s3 ht=>?_⟩
      have st3:=st2.same s3
      rw[if_neg hz',if_pos he']at hG2
      exact(q H3 row2 above2 wt2 pl dep2 st3.s st3.r st3.a B2).2 t p y hG2.symm ht hpw c1 hya c2
     ·have he':row2 y≠row2 p:=fun z=>he (decide_eq_true (by rw[hv,B2.col p hpw]at z;rw[Option.some.inj z]))
      exact⟨_,_,_,_,_,rfl,st2,B2,hp2,Part.skip B2 hp2 hy hz' he' A2,by rw[if_neg hz',if_neg he']at hG2;exact hG2⟩
   ·obtain⟨row2,above2,wt2,dep2,v7,e,st2,B2,hp2,A2,hG2⟩:=xq1
    subst e
    rw[nl_len]at A2 hG2
    rw[List.drop_length]at hG2
    exact⟨n-(pl+1),by omega,row2,above2,wt2,pl+1,dep2,_,_,rfl,rfl,st2,B2.next hp2 A2,hG2⟩
  ·have hle:wt.length<=pl:=by
    rw[<-nl_len]
    have:¬((pl:Int)<((nl wt).length:Int)):=fun z=>hlt (decide_eq_true z)
    omega
   exact(q H' row above wt pl dep st.s st.r st.a B).1 hle (by rw[<-hG,goW_end adjL _ _ _ _ _ hle])
end
def compScope:Expr->Scope
 | .ListComp _ _ s _=>s
 | .Call _ [e] _ _=>compScope e
 | .Compare a _ _ _=>compScope a
 |_=>{kind:= .function,names:=[],isGenerator:=false,isCoroutine:=false}
def retE:Stmt->Expr
 | .Return (some e) _=>e
 | .Assign _ e _=>e
 |_=> .Constant .none 0 ⟨0,0,0,0⟩
def stOf(i k:Nat):Stmt:=(defBody (top i)).getD k (.Pass ⟨0,0,0,0⟩)
structure NetZ(H:Hp)(p:Addr)(n:Nat)(q:Addr)(ts:List V)(es:List (Nat×Nat)):Prop where
 e1:H p=some (.tup [.int (n:Int),.ref q])
 e2:H q=some (.tup ts)
 len:ts.length=es.length
 tie:∀(i:Nat) t,ts[i]?=some t->∃a,t=V.ref a/\H a=some (.tup [.int ((es.getD i (0,0)).1:Int),.int ((es.getD i (0,0)).2:Int)])
 l200:es.length<=200
 n60:n<=60
 ok:∀e∈es,e.1<n/\e.2<n/\e.1≠e.2
theorem NetZ.tk{H H':Hp}{p q:Addr}{n:Nat}{ts:List V}{es:List (Nat×Nat)}(h:NetZ H p n q ts es)(k:Tk H H'):NetZ H' p n q ts es:=
 ⟨k _ _ h.e1,k _ _ h.e2,h.len,fun i t e=>let⟨a,x,y⟩:=h.tie i t e;⟨a,x,k _ _ y⟩,h.l200,h.n60,h.ok⟩
def grow(F:Nat->List Nat)(k v:Nat):Nat->List Nat:=fun i=>if i=k then F i++[v]else F i
def adjF(es:List (Nat×Nat)):Nat->Nat->List Nat
 |0=>fun _=>[]
 |m+1=>grow (grow (adjF es m) (es.getD m (0,0)).1 (es.getD m (0,0)).2) (es.getD m (0,0)).2 (es.getD m (0,0)).1
theorem mem_grow{F:Nat->List Nat}{k v i y:Nat}:y∈grow F k v i↔y∈F i\/(i=k/\y=v):=by
 unfold grow
 by_cases h:i=k
 ·rw[if_pos h,List.mem_append,List.mem_singleton]
  exact⟨fun z=>z.imp id fun z=>⟨h,z⟩,fun z=>z.imp id fun z=>z.2⟩
 ·rw[if_neg h]
  exact⟨.inl,fun z=>z.elim id fun z=>absurd z.1 h⟩
theorem mem_adjF(es:List (Nat×Nat))(x y:Nat):∀m,y∈adjF es m x↔∃k,k<m/\((x=(es.getD k (0,0)).1/\y=(es.getD k (0,0)).2)\/(x=(es.getD k (0,0)).2/\y=(es.getD k (0,0)).1))
 |0=>⟨(fun h=>by cases h),fun⟨k,h,_⟩=>absurd h (Nat.not_lt_zero _)⟩
 |m+1=>by
  unfold adjF
  rw[mem_grow,mem_grow,mem_adjF es x y m]
  constructor
  ·rintro((⟨k,h1,h2⟩|h)|h)
   ·exact⟨k,by omega,h2⟩
   ·exact⟨m,by omega,.inl h⟩
   ·exact⟨m,by omega,.inr h⟩
  ·rintro⟨k,h1,h2⟩
   by_cases e:k=m
   ·subst e
    rcases h2 with h|h
    ·exact .inl (.inr h)
    ·exact .inr h
   ·exact .inl (.inl ⟨k,by omega,h2⟩)
theorem adjF_sym(es:List (Nat×Nat))(m x y:Nat)(h:y∈adjF es m x):x∈adjF es m y:=by
 rw[mem_adjF]at h⊢
 obtain⟨k,h1,h2⟩:=h
 exact⟨k,h1,h2.elim (fun z=> .inr ⟨z.2,z.1⟩) fun z=> .inl ⟨z.2,z.1⟩⟩
theorem getD_mem{es:List (Nat×Nat)}{k:Nat}(h:k<es.length):es.getD k (0,0)∈es:=by rw[List.getD_eq_getElem?_getD,List.getElem?_eq_getElem h];exact List.getElem_mem h
theorem adjF_bnd{H:Hp}{p q:Addr}{n:Nat}{ts:List V}{es:List (Nat×Nat)}(N:NetZ H p n q ts es)(x y:Nat)(h:y∈adjF es es.length x):y<n:=by
 rw[mem_adjF]at h
 obtain⟨k,h1,h2⟩:=h
 obtain⟨a,b,_⟩:=N.ok _ (getD_mem h1)
 rcases h2 with z|z
 ·rw[z.2];exact b
 ·rw[z.2];exact a
theorem adjF_len(es:List (Nat×Nat))(i:Nat):∀m,(adjF es m i).length<=2*m
 |0=>Nat.le_refl _
 |m+1=>by
  have h:=adjF_len es i m
  unfold adjF grow
  split<;>split<;>(try rw[List.length_append])<;>(try rw[List.length_append])<;>(try simp only[List.length_singleton])<;>omega
structure RS(H1 H:Hp)(R:Addr)(rs:List Addr)(F:Nat->List Nat):Prop where
 top:H R=some (.lst (rs.map V.ref))
 row:∀(i:Nat) a,rs[i]?=some a->H a=some (.lst (nl (F i)))
 same:Same H1 H
theorem RS.write{H1 H:Hp}{R a:Addr}{rs:List Addr}{F:Nat->List Nat}{k v:Nat}(st:RS H1 H R rs F)(nd:rs.Nodup)(hR:R ∉ rs)(fr:∀a∈rs,H1 a=none) (hk:rs[k]?=some a):RS H1 (upd H a (.lst (nl (F k)++[.int (v:Int)]))) R rs (grow F k v):=by
 have ham:a∈rs:=List.mem_of_getElem? hk
 refine⟨?_,fun i b e=>?_,fun c' o' e'=>?_⟩
 ·rw[upd_ne (show R≠a from fun z=>hR (by rw[z];exact ham))]
  exact st.top
 ·unfold grow
  by_cases hi:i=k
  ·subst hi
   rw[hk]at e
   cases e
   rw[upd_same,if_pos rfl]
   unfold nl
   rw[List.map_append]
   rfl
  ·rw[if_neg hi]
   have hne:b≠a:=fun z=>by
    subst z
    obtain⟨l1,e1⟩:=List.getElem?_eq_some_iff.mp e
    obtain⟨l2,e2⟩:=List.getElem?_eq_some_iff.mp hk
    exact hi ((List.getElem_inj (h₀:=l1) (h₁:=l2) nd).mp (e1.trans e2.symm))
   rw[upd_ne hne]
   exact st.row i b e
 ·rw[upd_ne (ne_of_none e' (fr a ham))]
  exact st.same _ _ e'
section
variable{P:Program}{w:World}{K:PySem.W.Frag}{mg:Str->Option Value}{base:Heap}{Pt c:Addr}
abbrev sNb:Stmt:=top 67
abbrev nbScope:Scope:=compScope (retE (stOf 67 0))
abbrev nNb:List Str:=["net","point","tied","one","other"]
inductive spNb(vs:List V)(H:Hp)(Q:VK)(_z3:XK):Prop
 |mk (p n q ts es:_) (_:vs=[.ref p]) (_:NetZ H p n q ts es) (_:∀H' Ta tl,Same H H'->TiedAt H' Ta tl (adjF es es.length) n->Q (.ref Ta) H')
theorem ndNb:(["point"]:List Str).Nodup:=by decide+kernel
theorem scNb:FnScope nNb ["net"] (defScope sNb):=⟨rfl,rfl,rfl,by decide+kernel,rfl,by decide+kernel,by decide+kernel⟩
theorem blkNb{f:Addr}{cdv:Value}{A:Around}{outer:List Env}{s:Shared}{H:Hp}{E:XK}:
  Blk (cxOf CX0 P w K mg base nNb "neighbours" (defScope sNb) f cdv A outer s H E).nox nbScope [] ["point"] [none]:=by
 refine⟨rfl,rfl,by decide+kernel,by decide+kernel,fun p hp=>(by cases hp),fun y hy e=>?_,trivial⟩
 have hy':y∈[((PySem.Str.ofString ".0":Str),NameKind.local),(PySem.Str.ofString "point",.local)]:=hy
 simp only[List.mem_cons,List.not_mem_nil,or_false]at hy'
 rcases hy' with rfl|rfl<;>cases e
theorem ok_nb{f:Addr}{fd:FuncData}(F:Fun K "neighbours" "neighbours" sNb f fd)(T:Bi mg):FnOk P w K mg base CX0 1 f fd ["net"] spNb:=by
 refine F.ok scNb (fun vs H Q E h=>?_) (fun cdv A outer s H vs Q E hr h=>?_)
 ·obtain⟨p,n,q,ts,es,rfl,_⟩:=h
  rfl
 ·obtain⟨p,n,qa,ts,es,rfl,N,q⟩:=h
  refine⟨_,pss_cons (ps_lcR blkNb rfl rfl T.range (pa_c (pe_ix ix_tup (pv 0) pe_int (fun _ _=>rfl)) pa_nil) (monoA_cons (mono_ixT (mono_var 0) (mono_c _)) monoA_nil) rfl (fun C fp s H=>pg_name (i:=0) ndNb rfl (Or.inl rfl)) (fun C fp s H=>pts_nil) (fun C fp s H=>pe_lst pa_nil)
    (pg_name (i:=2) scNb.nd rfl (Or.inl rfl)) rfl)
   (pss_cons (ps_for PassesOwn.never rfl (pi_tup (pe_ix ix_tup (pv 0) pe_int (fun _ _=>rfl))) (pg_tup rfl (pgs_cons (pg_name (i:=3) scNb.nd rfl (Or.inl rfl)) (pgs_cons (pg_name (i:=4) scNb.nd rfl (Or.inl rfl)) pgs_nil)))
    (pss_cons (ps_expr (pe_bm PySem.F.plainAttrs_list PySem.F.slot_list_append PySem.F.type_list_append mt_append (pe_ix ix_list (pv 2) (pv 3) (fun _ _=>rfl)) (pa_c (pv 4) pa_nil)))
    (pss_one (ps_expr (pe_bm PySem.F.plainAttrs_list PySem.F.slot_list_append PySem.F.type_list_append mt_append (pe_ix ix_list (pv 2) (pv 4) (fun _ _=>rfl)) (pa_c (pv 3) pa_nil))))))
   (pss_one (ps_ret (pv 2)))),?_⟩
  have h60:=N.n60
  have h200:=N.l200
  have hlen:=N.len
  refine⟨_,rfl,p,_,_,_,rfl,rfl,SqT.of N.e1,rfl,n,rfl,by omega,fun i ys σ H'=>∃rs:List Addr,ys=rs.map V.ref/\rs.length=i/\rs.Nodup/\Same H H'/\(∀b∈rs,H b=none/\H' b=some (.lst []))/\∃v0,σ=[v0],
   ⟨[],rfl,rfl,List.nodup_nil,Same.refl H,(fun b hb=>by cases hb),none,rfl⟩,fun i ys σ H' hi⟨rs,e1,e2,_⟩=>by subst e1;rw[List.length_map];omega,fun i ys σ H' hi xq1=>?_,fun ys σ H' xq1 R H2 s2 hR=>?_⟩
  ·obtain⟨rs,e1,e2,nd,sH,hrs,v0,e3⟩:=xq1
   subst e1 e3
   dsimp only[gName,tTrue]
   refine iteT ⟨(by show 0<=sizeLine;exact Nat.zero_le _),fun d hd=>⟨rs++[d],by rw[List.map_append];rfl,by rw[List.length_append,e2];rfl,?_,Same.trans sH (same_new hd),fun b hb=>?_,_,rfl⟩⟩
   ·rw[List.nodup_append]
    refine⟨nd,List.nodup_cons.mpr ⟨List.not_mem_nil,List.nodup_nil⟩,fun x hx y hy z=>?_⟩
    rw[List.mem_singleton]at hy
    subst hy z
    rw[(hrs x hx).2]at hd
    cases hd
   ·rcases List.mem_append.mp hb with z|z
    ·exact⟨(hrs b z).1,by rw[upd_ne (ne_of_none (hrs b z).2 hd)];exact(hrs b z).2⟩
    ·rw[List.mem_singleton.mp z]
     refine⟨?_,upd_same⟩
     cases y:H d with
     |none=>rfl
     |some o=>rw[sH d o y]at hd;cases hd
  ·obtain⟨rs,e1,e2,nd,sH,hrs,_⟩:=xq1
   subst e1
   have sH2:=Same.trans sH s2
   have hRn:R ∉ rs:=fun z=>by
    have z2:=s2 _ _ (hrs R z).2
    rw[hR]at z2
    cases rs with
    |nil=>cases z
    |cons b bs=>cases z2
   have fr:∀b∈rs,H b=none:=fun b hb=>(hrs b hb).1
   have st0:RS H H2 R rs (adjF es 0):=⟨hR,fun i b e=>by rw[s2 _ _ (hrs b (List.mem_of_getElem? e)).2];rfl,sH2⟩
   refine⟨_,rfl,p,_,_,_,rfl,rfl,SqT.of (sH2 _ _ N.e1),rfl,qa,rfl,⟨_,SqT.of (sH2 _ _ N.e2)⟩,for_tup (K:=K) (a:=qa) (xs:=ts) (fun i σ H'=>(∃v1 v3 v4,σ=[some (.ref p),v1,some (.ref R),v3,v4])/\RS H H' R rs (adjF es i)) ⟨⟨_,_,_,rfl⟩,st0⟩ (fun i σ H' _ z=>SqT.of (z.2.same _ _ N.e2)) (fun i x σ H' hx xq1=>?_) (fun σ H' xq1=>?_)⟩
   ·obtain⟨⟨v1,v3,v4,e⟩,st⟩:=xq1
    subst e
    have hi':i<ts.length:=(List.getElem?_eq_some_iff.mp hx).1
    have hie:i<es.length:=by omega
    obtain⟨b,rfl,hbt⟩:=N.tie i x hx
    obtain⟨a1,b1,ab⟩:=N.ok _ (getD_mem hie)
    have l1:(es.getD i (0,0)).1<rs.length:=by omega
    have l2:(es.getD i (0,0)).2<rs.length:=by omega
    have hz:∀(G:Nat->List Nat)(k:Nat),(G k).length<=2*i+1->(nl (G k)).length<sizeLine:=fun G k hG=>by rw[nl_len,sizeLine_eq];omega
    refine⟨b,_,rfl,SqT.of (st.same _ _ hbt),rfl,_,_,rfl,_,_,rfl,rfl,?_⟩
    have r1:=st.row _ _ (List.getElem?_eq_getElem l1)
    have st2:=st.write (v:=(es.getD i (0,0)).2) nd hRn fr (List.getElem?_eq_getElem l1)
    have r2:=st2.row _ _ (List.getElem?_eq_getElem l2)
    have st3:=st2.write (v:=(es.getD i (0,0)).1) nd hRn fr (List.getElem?_eq_getElem l2)
    refine⟨_,rfl,_,rfl,R,_,_,.ref rs[(es.getD i (0,0)).1],rfl,rfl,SqL.of st.top,atI_nat (by rw[List.getElem?_map,List.getElem?_eq_getElem l1];rfl),.inl ⟨rfl,_,SqL.of r1⟩,_,rfl,rs[(es.getD i (0,0)).1],_,_,rfl,rfl,r1,hz _ _ (by have:=adjF_len es (es.getD i (0,0)).1 i;omega),?_⟩
    refine⟨_,rfl,_,rfl,R,_,_,.ref rs[(es.getD i (0,0)).2],rfl,rfl,SqL.of st2.top,atI_nat (by rw[List.getElem?_map,List.getElem?_eq_getElem l2];rfl),.inl ⟨rfl,_,SqL.of r2⟩,_,rfl,rs[(es.getD i (0,0)).2],_,_,rfl,rfl,r2,hz _ _ ?_,⟨_,_,_,rfl⟩,st3⟩
    have:=adjF_len es (es.getD i (0,0)).2 i
    unfold grow
    rw[if_neg (fun z=>ab z.symm)]
    omega
   ·obtain⟨⟨v1,v3,v4,e⟩,st⟩:=xq1
    subst e
    rw[hlen]at st
    exact⟨_,rfl,q H' R rs st.same ⟨st.top,e2,fun i b e=>st.row i b e⟩⟩
end
section
variable{adjL:Nat->List Nat}{V0:Nat->Prop}{row0 row:Nat->Option Int}{n root:Nat}{above:Nat->Option Nat}{wt:List Nat}{pl:Nat}{dep:Nat->Nat}
theorem BF.dep_lt(B:BF adjL V0 row0 n root row above wt pl dep){x:Nat}(hx:x∈wt):dep x<n:=by
 have h:=len_of_lt n ((List.range (dep x+1)).map (it (parOf above) x)) (by
  rw[List.Nodup,List.pairwise_map]
  refine List.Pairwise.imp_of_mem (fun{i j} hi hj h=>?_) (List.nodup_range (n:=dep x+1))
  rw[List.mem_range]at hi hj
  intro z
  have h1:=(B.up hx i (by omega)).2
  have h2:=(B.up hx j (by omega)).2
  rw[z]at h1
  exact h (by omega)) (fun y hy=>by
  obtain⟨i,hi,rfl⟩:=List.mem_map.mp hy
  rw[List.mem_range]at hi
  exact B.lt _ (B.up hx i (by omega)).1)
 rw[List.length_map,List.length_range]at h
 assumption
end
def leg(above:Nat->Option Nat)(x m:Nat):List Nat:=(List.range m).map (it (parOf above) x)
theorem leg_succ(above:Nat->Option Nat)(x m:Nat):leg above x (m+1)=leg above x m++[it (parOf above) x m]:=by
 unfold leg
 rw[List.range_succ,List.map_append]
 rfl
theorem nl_app(l:List Nat)(x:Nat):nl (l++[x])=nl l++[.int (x:Int)]:=by
 unfold nl
 rw[List.map_append]
 rfl
theorem leg_len(above:Nat->Option Nat)(x m:Nat):(leg above x m).length=m:=by unfold leg;rw[List.length_map,List.length_range]
theorem cut_last(xs:List V)(v:V):cutV (xs++[v]) none (some (-1))=xs:=by
 have e:HT.sIx (xs++[v]).length (xs++[v]).length (some (-1))=xs.length:=by
  rw[List.length_append,List.length_singleton]
  unfold HT.sIx
  simp only[]
  split<;>omega
 unfold cutV
 rw[e,HT.sIx_none,List.drop_zero,Nat.sub_zero,List.take_left]
section
variable{P:Program}{w:World}{K:PySem.W.Frag}{mg:Str->Option Value}{base:Heap}{Pt c:Addr}
abbrev sCl:Stmt:=top 69
abbrev nCl:List Str:=["above","one","other","up","down"]
inductive spCl(vs:List V)(H:Hp)(Q:VK)(_z3:XK):Prop
 |mk (Aa:Addr) (adjL:Nat->List Nat) (V0:Nat->Prop) (row0 row:Nat->Option Int) (n root:Nat) (above:Nat->Option Nat) (wt:List Nat) (pl:Nat) (dep:Nat->Nat) (a b:Nat) (_:vs=[.ref Aa,.int (a:Int),.int (b:Int)]) (_:H Aa=some (.lst (ol (up1 above) n))) (_:BF adjL V0 row0 n root row above wt pl dep) (_:a∈wt) (_:b∈wt) (_:dep b=dep a) (_:n<=60) (_:∀(H':Hp)(t:Addr)(m:Nat),Same H H'->H' t=some (.tup (nl (ring (parOf above) a b m)))->m<=dep a->it (parOf above) a m=it (parOf above) b m->(∀i,i<m->it (parOf above) a i≠it (parOf above) b i)->Q (.ref t) H')
theorem scCl:FnScope nCl ["above","one","other"] (defScope sCl):=⟨rfl,rfl,rfl,by decide+kernel,rfl,by decide+kernel,by decide+kernel⟩
theorem ok_cl{f:Addr}{fd:FuncData}(F:Fun K "closed" "closed" sCl f fd)(T:Bi mg)(hrv:mg "reversed"=none):FnOk P w K mg base CX0 1 f fd ["above","one","other"] spCl:=by
 refine F.ok scCl (fun vs H Q E h=>?_) (fun cdv A outer s H vs Q E hr h=>?_)
 ·obtain⟨Aa,adjL,V0,row0,row,n,root,above,wt,pl,dep,a,b,rfl,_⟩:=h
  rfl
 ·obtain⟨Aa,adjL,V0,row0,row,n,root,above,wt,pl,dep,a,b,rfl,hA,B,ha,hb,hd,h60,q⟩:=h
  refine⟨_,pss_cons (ps_set (i:=3) scCl.nd rfl (Or.inl rfl) (pe_lst (pa_c (pv 1) pa_nil)))
   (pss_cons (ps_set (i:=4) scCl.nd rfl (Or.inl rfl) (pe_lst (pa_c (pv 2) pa_nil)))
   (pss_cons (ps_while PassesOwn.never (pt_cmpR op_ne (pe_ix ix_list (pv 3) (pe_un un_neg pe_int) (fun _ _=>rfl)) (pe_ix ix_list (pv 4) (pe_un un_neg pe_int) (fun _ _=>rfl)) (nomark _))
    (pss_cons (ps_expr (pe_bm PySem.F.plainAttrs_list PySem.F.slot_list_append PySem.F.type_list_append mt_append (pv 3) (pa_c (pe_ix ix_list (pv 0) (pe_ix ix_list (pv 3) (pe_un un_neg pe_int) (fun _ _=>rfl)) (fun _ _=>rfl)) pa_nil)))
    (pss_one (ps_expr (pe_bm PySem.F.plainAttrs_list PySem.F.slot_list_append PySem.F.type_list_append mt_append (pv 4) (pa_c (pe_ix ix_list (pv 0) (pe_ix ix_list (pv 4) (pe_un un_neg pe_int) (fun _ _=>rfl)) (fun _ _=>rfl)) pa_nil))))))
   (pss_one (ps_ret (pe_callTy call_tuple_ofS rfl T.tuple bTuple (pa_c (pe_op op_catLS (pv 3) (pe_listRev rfl (pe_slice sl_list (pv 4) po_none (po_some (pe_un un_neg pe_int))) rfl T.list rfl hrv rfl)) pa_nil)))))),?_⟩
  have hdn:=B.dep_lt ha
  refine⟨_,rfl,(by show 1<=sizeLine;decide),fun U hU=>?_⟩
  refine⟨_,rfl,(by show 1<=sizeLine;decide),fun D hD=>?_⟩
  have hUD:U≠D:=fun z=>by subst z;rw[upd_same]at hD;cases hD
  have hD0:H D=none:=by
   cases z:H D with
   |none=>rfl
   |some o=>rw[same_new hU D o z]at hD;cases hD
  have s0:Same H (upd (upd H U (.lst [.int (a:Int)])) D (.lst [.int (b:Int)])):=Same.trans (same_new hU) (same_new hD)
  refine⟨fun μ σ H'=>∃m,μ=dep a-m/\m<=dep a/\(∀i,i<m->it (parOf above) a i≠it (parOf above) b i)/\σ=[some (.ref Aa),some (.int (a:Int)),some (.int (b:Int)),some (.ref U),some (.ref D)]/\H' U=some (.lst (nl (leg above a (m+1))))/\H' D=some (.lst (nl (leg above b (m+1))))/\Same H H',
   ⟨_,0,rfl,Nat.zero_le _,fun i h=>absurd h (Nat.not_lt_zero _),rfl,by rw[upd_ne hUD,upd_same];rfl,by rw[upd_same];rfl,s0⟩,?_⟩
  rintro μ σ H' ⟨m,rfl,hm,hf,rfl,hU',hD',sH⟩
  rw[leg_succ,nl_app]at hU' hD'
  have lU:=atI_last (nl (leg above a m)) (.int ((it (parOf above) a m:Nat):Int))
  have lD:=atI_last (nl (leg above b m)) (.int ((it (parOf above) b m:Nat):Int))
  refine⟨_,rfl,_,rfl,U,_,_,_,rfl,rfl,SqL.of hU',lU,_,rfl,_,rfl,D,_,_,_,rfl,rfl,SqL.of hD',lD,rfl,_,rfl,?_⟩
  refine ite2 (fun hne=>?_) (fun hne=>?_)
  ·have hne':it (parOf above) a m≠it (parOf above) b m:=fun z=>by
    rw[z]at hne
    simp at hne
   have hlt:m<dep a:=by
    rcases Nat.lt_or_eq_of_le hm with h|h
    ·exact h
    ·exact absurd (by rw[h,B.upEnd ha,<-hd,B.upEnd hb]) hne'
   refine⟨fun σ' H'=>∃m',m'<dep a-m/\∃m,m'=dep a-m/\m<=dep a/\(∀i,i<m->it (parOf above) a i≠it (parOf above) b i)/\σ'=[some (.ref Aa),some (.int (a:Int)),some (.int (b:Int)),some (.ref U),some (.ref D)]/\H' U=some (.lst (nl (leg above a (m+1))))/\H' D=some (.lst (nl (leg above b (m+1))))/\Same H H',fun _ _ h=>h,?_⟩
   have ab:∀x,x∈wt->m<dep x->atI (ol (up1 above) n) ((it (parOf above) x m:Nat):Int)=some (.int ((it (parOf above) x (m+1):Nat):Int)):=fun x hx hl=>by
    refine atI_nat ?_
    rw[ol_get _ (B.lt _ (B.up hx m (by omega)).1)]
    unfold ov up1
    rw[(B.upTie hx m hl).1]
    rfl
   have szm:∀x,(nl (leg above x m)++[V.int ((it (parOf above) x m:Nat):Int)]).length<sizeLine:=fun x=>by
    rw[List.length_append,nl_len,leg_len,List.length_singleton,sizeLine_eq]
    omega
   have nAU:Aa≠U:=fun z=>by rw[<-z,hA]at hU;cases hU
   have nAD:Aa≠D:=fun z=>by rw[<-z,hA]at hD0;cases hD0
   refine⟨_,rfl,.inl ⟨rfl,_,SqL.of hU'⟩,_,rfl,_,rfl,_,rfl,U,_,_,_,rfl,rfl,SqL.of hU',lU,Aa,_,_,_,rfl,rfl,SqL.of (sH _ _ hA),ab a ha hlt,U,_,_,rfl,rfl,hU',szm a,?_⟩
   have hD2:(upd H' U (.lst (nl (leg above a m)++[.int ((it (parOf above) a m:Nat):Int)]++[.int ((it (parOf above) a (m+1):Nat):Int)]))) D=some (.lst (nl (leg above b m)++[.int ((it (parOf above) b m:Nat):Int)])):=by rw[upd_ne (Ne.symm hUD)];exact hD'
   have hA2:(upd H' U (.lst (nl (leg above a m)++[.int ((it (parOf above) a m:Nat):Int)]++[.int ((it (parOf above) a (m+1):Nat):Int)]))) Aa=some (.lst (ol (up1 above) n)):=by rw[upd_ne nAU];exact sH _ _ hA
   refine⟨_,rfl,.inl ⟨rfl,_,SqL.of hD2⟩,_,rfl,_,rfl,_,rfl,D,_,_,_,rfl,rfl,SqL.of hD2,lD,Aa,_,_,_,rfl,rfl,SqL.of hA2,ab b hb (by omega),D,_,_,rfl,rfl,hD2,szm b,?_⟩
   refine⟨dep a-(m+1),by omega,m+1,rfl,hlt,fun i hi=>?_,rfl,?_,?_,fun b' o' e'=>?_⟩
   ·by_cases e:i=m
    ·rw[e];exact hne'
    ·exact hf i (by omega)
   ·rw[upd_ne hUD,upd_same,leg_succ,nl_app,leg_succ,nl_app]
   ·rw[upd_same,leg_succ,nl_app,leg_succ,nl_app]
   ·rw[upd_ne (ne_of_none e' hD0),upd_ne (ne_of_none e' hU)]
    exact sH _ _ e'
  ·have heq:it (parOf above) a m=it (parOf above) b m:=by
    by_cases e:it (parOf above) a m=it (parOf above) b m
    ·exact e
    ·refine absurd ?_ hne
     have:¬(V.int ((it (parOf above) a m:Nat):Int)=V.int ((it (parOf above) b m:Nat):Int)):=fun z=>e (by injection z with z;omega)
     rw[decide_eq_false this]
     rfl
   refine⟨_,rfl,_,rfl,_,rfl,_,rfl,D,_,rfl,SqL.of hD',fun l1 h1=>?_⟩
   rw[cut_last]
   refine⟨l1,_,rfl,SqL.of upd_same,fun l2 H2 s2 h2=>?_⟩
   have hU2:=s2 _ _ (same_new h1 (o:= .lst (nl (leg above b m))) _ _ hU')
   refine⟨U,l2,_,_,rfl,rfl,hU2,h2,(by rw[List.length_append,List.length_reverse,nl_len,nl_len,leg_len,leg_len,List.length_singleton];omega),fun l3 H3 s3 h3=>⟨l3,_,rfl,.inl h3,fun t H4 s4 ht=>?_⟩⟩
   refine q H4 t m (Same.trans (Same.trans (Same.trans (Same.trans sH (same_new h1)) s2) s3) s4) ?_ hm heq hf
   rw[ht]
   have e:nl (ring (parOf above) a b m)=nl (leg above a m)++[.int ((it (parOf above) a m:Nat):Int)]++(nl (leg above b m)).reverse:=by
    unfold ring
    rw[<-nl_app,<-leg_succ]
    unfold nl leg
    rw[List.map_append,List.map_reverse]
   rw[e]
end
inductive Ans where
 |ring (above:Nat->Option Nat) (a b:Nat)
 |sides (row:Nat->Option Int)
def goS(adjL:Nat->List Nat)(n:Nat):Nat->Nat->(Nat->Option Int)->(Nat->Option Nat)->Ans
 |0,_,row,_=> .sides row
 |f+1,r,row,ab=>if row r=none then(match(goW adjL n 0 (put row r (some 0)) ab [r]).clash with
   |some (a,b)=> .ring (goW adjL n 0 (put row r (some 0)) ab [r]).above a b
   |none=>goS adjL n f (r+1) (goW adjL n 0 (put row r (some 0)) ab [r]).row (goW adjL n 0 (put row r (some 0)) ab [r]).above)else goS adjL n f (r+1) row ab
theorem goS_some(adjL:Nat->List Nat)(n f r:Nat)(row:Nat->Option Int)(ab:Nat->Option Nat)(h:row r≠none):goS adjL n (f+1) r row ab=goS adjL n f (r+1) row ab:=by
 show(if row r=none then _ else _)=_
 rw[if_neg h]
theorem goS_none(adjL:Nat->List Nat)(n f r:Nat)(row row':Nat->Option Int)(ab ab':Nat->Option Nat)(h:row r=none)(hW:goW adjL n 0 (put row r (some 0)) ab [r]=⟨none,row',ab'⟩):goS adjL n (f+1) r row ab=goS adjL n f (r+1) row' ab':=by
 show(if row r=none then _ else _)=_
 rw[if_pos h,hW]
theorem goS_ring(adjL:Nat->List Nat)(n f r a b:Nat)(row row':Nat->Option Int)(ab ab':Nat->Option Nat)(h:row r=none)(hW:goW adjL n 0 (put row r (some 0)) ab [r]=⟨some (a,b),row',ab'⟩):goS adjL n (f+1) r row ab= .ring ab' a b:=by
 show(if row r=none then _ else _)=_
 rw[if_pos h,hW]
abbrev no1:Nat->Option Int:=fun _=>none
abbrev no2:Nat->Option Nat:=fun _=>none
theorem rep_none(N:Nat):(List.replicate N ([.non]:List V)).flatten=ol no1 N:=by
 induction N with
 |zero=>rfl
 |succ n ih=>
  rw[List.replicate_succ',List.flatten_append,ih]
  unfold ol
  rw[List.range_succ,List.map_append]
  rfl
section
variable{P:Program}{w:World}{K:PySem.W.Frag}{mg:Str->Option Value}{base:Heap}{Pt c:Addr}
abbrev sSd:Stmt:=top 70
abbrev nSd:List Str:=["net","tied","row","above","root","clash"]
inductive spSd(vs:List V)(H:Hp)(Q:VK)(_z3:XK):Prop
 |mk (p n qa ts es:_) (_:vs=[.ref p]) (_:NetZ H p n qa ts es) (_:(∀H' t r row',Same H H'->H' t=some (.tup [.str "sides",.ref r])->H' r=some (.tup (ol row' n))->(∃V rt,Out (adjF es es.length) V row' rt n)->goS (adjF es es.length) n n 0 no1 no2= .sides row'->Q (.ref t) H')) (_:∀H' t r above a b m,Same H H'->H' t=some (.tup [.str "ring",.ref r])->H' r=some (.tup (nl (ring (parOf above) a b m)))->goS (adjF es es.length) n n 0 no1 no2= .ring above a b->it (parOf above) a m=it (parOf above) b m->(∀i,i<m->it (parOf above) a i≠it (parOf above) b i)->(1<=m/\(∀x∈ring (parOf above) a b m,x<n)/\(ring (parOf above) a b m).Nodup/\∀k,k<2*m+1->(ring (parOf above) a b m).getD k 0∈adjF es es.length ((ring (parOf above) a b m).getD (if k=0 then 2*m else k-1) 0))->Q (.ref t) H')
theorem scSd:FnScope nSd ["net"] (defScope sSd):=⟨rfl,rfl,rfl,by decide+kernel,rfl,by decide+kernel,by decide+kernel⟩
theorem adj_ne{H:Hp}{p q:Addr}{n:Nat}{ts:List V}{es:List (Nat×Nat)}(N:NetZ H p n q ts es)(x y:Nat)(h:y∈adjF es es.length x):x≠y:=by
 rw[mem_adjF]at h
 obtain⟨k,h1,h2⟩:=h
 have ab:=(N.ok _ (getD_mem h1)).2.2
 rcases h2 with z|z
 ·rw[z.1,z.2];exact ab
 ·rw[z.1,z.2];exact Ne.symm ab
theorem ok_sd{f:Addr}{fd:FuncData}(F:Fun K "sides" "sides" sSd f fd)(T:Bi mg)(FN:FnE P w K mg base "neighbours" ["net"] 1 spNb)(FS:FnE P w K mg base "spread" ["tied","row","above","root"] 1 spSpr)(FC:FnE P w K mg base "closed" ["above","one","other"] 1 spCl):FnOk P w K mg base CX0 2 f fd ["net"] spSd:=by
 refine F.ok scSd (fun vs H Q E h=>?_) (fun cdv A outer s H vs Q E hr h=>?_)
 ·obtain⟨p,n,q,ts,es,rfl,_⟩:=h
  rfl
 ·obtain⟨p,n,qa,ts,es,rfl,N,qS,qR⟩:=h
  refine⟨_,pss_cons (ps_set (i:=1) scSd.nd rfl (Or.inl rfl) (pe_fc FN hr (pa_c (pv 0) pa_nil)))
   (pss_cons (ps_set (i:=2) scSd.nd rfl (Or.inl rfl) (pe_op op_rep (pe_lst (pa_c pe_non pa_nil)) (pe_ix ix_tup (pv 0) pe_int (fun _ _=>rfl))))
   (pss_cons (ps_set (i:=3) scSd.nd rfl (Or.inl rfl) (pe_op op_rep (pe_lst (pa_c pe_non pa_nil)) (pe_ix ix_tup (pv 0) pe_int (fun _ _=>rfl))))
   (pss_cons (ps_for PassesOwn.never rfl (pi_range1 rfl T.range (pa_c (pe_ix ix_tup (pv 0) pe_int (fun _ _=>rfl)) pa_nil)) (pg_name (i:=4) scSd.nd rfl (Or.inl rfl))
    (pss_one (ps_if (pt_cmpR op_isN (pe_ix ix_list (pv 2) (pv 4) (fun _ _=>rfl)) pe_non (nomark _))
     (pss_cons (ps_asg pe_int (pg_sub (pv 2) (pv 4) set_listN))
     (pss_cons (ps_set (i:=5) scSd.nd rfl (Or.inl rfl) (pe_fc FS hr (pa_c (pv 1) (pa_c (pv 2) (pa_c (pv 3) (pa_c (pv 4) pa_nil))))))
     (pss_one (ps_if (pt_cmpR op_notN (pv 5) pe_non (nomark _)) (pss_one (ps_ret (pe_tupS (pa_c pe_str (pa_c (pe_fc FC hr (pa_c (pv 3) (pa_c (pe_ix ix_tup (pv 5) pe_int (fun _ _=>rfl)) (pa_c (pe_ix ix_tup (pv 5) pe_int (fun _ _=>rfl)) pa_nil)))) pa_nil))))) pss_nil))))
     pss_nil)))
   (pss_one (ps_ret (pe_tupS (pa_c pe_str (pa_c (pe_callTy call_tuple_ofS rfl T.tuple bTuple (pa_c (pv 2) pa_nil)) pa_nil)))))))),?_⟩
  have h60:=N.n60
  refine⟨_,rfl,p,n,qa,ts,es,rfl,N,fun H1 Ta tl s1 TA=>?_⟩
  have szn:1*((n:Int)).toNat<=sizeLine:=by rw[sizeLine_eq,Int.toNat_natCast];omega
  refine⟨(by show 1<=sizeLine;decide),fun b1 hb1=>?_⟩
  refine⟨_,rfl,p,_,_,_,rfl,rfl,SqT.of (same_new hb1 _ _ (s1 _ _ N.e1)),rfl,b1,(n:Int),_,rfl,rfl,upd_same,(by omega),(by omega),szn,fun Ra hRa=>?_⟩
  rw[Int.toNat_natCast,rep_none]
  have t1:=Same.trans (same_new (o:= .lst [.non]) hb1) (same_new (o:= .lst (ol no1 n)) hRa)
  refine⟨(by show 1<=sizeLine;decide),fun b2 hb2=>?_⟩
  have t2:=Same.trans t1 (same_new (o:= .lst [.non]) hb2)
  refine⟨_,rfl,p,_,_,_,rfl,rfl,SqT.of (t2 _ _ (s1 _ _ N.e1)),rfl,b2,(n:Int),_,rfl,rfl,upd_same,(by omega),(by omega),szn,fun Aa hAa=>?_⟩
  rw[Int.toNat_natCast,rep_none]
  have t3:=Same.trans t2 (same_new (o:= .lst (ol no1 n)) hAa)
  have fr:∀{H':Hp}{d:Addr},Same H1 H'->H' d=none->H1 d=none:=fun{H' d} s' h=>by
   cases z:H1 d with
   |none=>rfl
   |some o=>rw[s' d o z]at h;cases h
  have hRa1:H1 Ra=none:=fr (same_new hb1) hRa
  have hAa1:H1 Aa=none:=fr t2 hAa
  have hR0:(upd (upd (upd (upd H1 b1 (.lst [.non])) Ra (.lst (ol no1 n))) b2 (.lst [.non])) Aa (.lst (ol no1 n))) Ra=some (.lst (ol no1 n)):=Same.trans (same_new hb2) (same_new hAa) _ _ upd_same
  have hRA:Ra≠Aa:=fun z=>by
   subst z
   rw[same_new hb2 _ _ upd_same]at hAa
   cases hAa
  have tied:∀{H'},Same H1 H'->TiedAt H' Ta tl (adjF es es.length) n:=fun{H'} s'=>⟨s' _ _ TA.top,TA.len,fun i a e=>s' _ _ (TA.row i a e)⟩
  have hne:∀a∈Ta::tl,a≠Ra/\a≠Aa:=fun a ha=>by
   have hs:∃o,H1 a=some o:=by
    rcases List.mem_cons.mp ha with z|z
    ·exact⟨_,by rw[z];exact TA.top⟩
    ·obtain⟨i,hi,e⟩:=List.getElem_of_mem z
     exact⟨_,TA.row i a (by rw[List.getElem?_eq_getElem hi,e])⟩
   obtain⟨o,ho⟩:=hs
   exact⟨ne_of_none ho hRa1,ne_of_none ho hAa1⟩
  refine⟨_,rfl,p,_,_,_,rfl,rfl,SqT.of (t3 _ _ (s1 _ _ N.e1)),rfl,(n:Int),rfl,by omega,by omega,for_range (lo:=0) (n:=((n:Int)).toNat) (fun r σ H'=>∃row above V rt v4 v5,σ=[some (.ref p),some (.ref Ta),some (.ref Ra),some (.ref Aa),v4,v5]/\H' Ra=some (.lst (ol row n))/\H' Aa=some (.lst (ol (up1 above) n))/\Same H1 H'/\Out (adjF es es.length) V row rt r/\goS (adjF es es.length) n (n-r) r row above=goS (adjF es es.length) n n 0 no1 no2)
   ⟨no1,no2,_,_,none,none,rfl,hR0,upd_same,t3,Out.start,rfl⟩ (fun r σ H' hr' xq1=>?_) (fun σ H' xq1=>?_)⟩
  ·obtain⟨row,above,V,rt,v4,v5,e,hR,hA,sH,O,hG⟩:=xq1
   subst e
   rw[Int.toNat_natCast]at hr'
   have hstep:goS (adjF es es.length) n (n-r) r row above=goS (adjF es es.length) n (n-(r+1)+1) r row above:=by rw[show n-(r+1)+1=n-r by omega]
   rw[hstep]at hG
   refine⟨_,rfl,_,rfl,Ra,_,_,ov row r,rfl,rfl,SqL.of hR,(by rw[Int.zero_add];exact atI_nat (ol_get _ hr')),rfl,_,rfl,?_⟩
   refine ite2 (fun hz=>?_) (fun hz=>?_)
   ·have hz':row r=none:=ov_none.mp (of_decide_eq_true hz)
    refine⟨_,rfl,_,rfl,Ra,_,r,rfl,(by rw[Int.zero_add]),hR,by rw[ol_len];exact hr',?_⟩
    rw[ol_set]
    have sw:Same H1 (upd H' Ra (.lst (ol (put row r (some 0)) n))):=fun b o e=>by rw[upd_ne (ne_of_none e hRa1)];exact sH _ _ e
    refine⟨_,rfl,_,rfl,_,rfl,_,rfl,Ta,Ra,Aa,tl,adjF es es.length,V,row,above,n,r,(by rw[Int.zero_add];rfl),tied sw,upd_same,(by rw[upd_ne (Ne.symm hRA)];exact hA),hRA,hne,h60,BF.start (adjF_sym es es.length) (adjF_bnd N) O.shut hz' hr',fun H2 row' above' wt pl dep sm hR2 hA2 B=>⟨fun hl hW=>?_,fun t a b hW ht ha hb hab hd=>?_⟩⟩
    ·have s2:Same H1 H2:=fun b o e=>sm _ _ (sw _ _ e) (ne_of_none e hRa1) (ne_of_none e hAa1)
     rw[goS_none _ _ _ _ _ _ _ _ hz' hW]at hG
     obtain⟨rt',O'⟩:=O.walk B hl
     exact⟨_,rfl,rfl,_,rfl,iteF ⟨_,_,_,rt',_,_,rfl,hR2,hA2,s2,O',hG⟩⟩
    ·have s2:Same H1 H2:=fun b o e=>sm _ _ (sw _ _ e) (ne_of_none e hRa1) (ne_of_none e hAa1)
     rw[goS_ring _ _ _ _ _ _ _ _ _ _ hz' hW]at hG
     refine⟨_,rfl,rfl,_,rfl,iteT ?_⟩
     refine⟨_,rfl,_,rfl,t,_,_,_,rfl,rfl,SqT.of ht,rfl,_,rfl,t,_,_,_,rfl,rfl,SqT.of ht,rfl,Aa,adjF es es.length,V,row,row',n,r,above',wt,pl,dep,a,b,rfl,hA2,B,ha,hb,hd,h60,fun H3 t' m s3 ht' hm meet first=>⟨rfl,fun t2 H4 s4 ht2=>?_⟩⟩
     exact qR H4 t2 t' above' a b m (Same.trans (Same.trans (Same.trans s1 s2) s3) s4) ht2 (s4 _ _ ht') hG.symm meet first (B.ring_ok ha hb hd (adj_ne N _ _ hab) hab hm meet first)
   ·have hz':row r≠none:=fun z=>hz (decide_eq_true (ov_none.mpr z))
    rw[goS_some _ _ _ _ _ _ hz']at hG
    exact⟨row,above,V,rt,_,_,rfl,hR,hA,sH,O.skip hz',hG⟩
  ·obtain⟨row,above,V,rt,v4,v5,e,hR,hA,sH,O,hG⟩:=xq1
   subst e
   rw[Int.toNat_natCast]at O hG
   rw[Nat.sub_self]at hG
   refine⟨_,rfl,Ra,_,rfl,.inl hR,fun r H2 s2 hr2=>⟨rfl,fun t H3 s3 ht=>?_⟩⟩
   exact qS H3 t r row (Same.trans (Same.trans (Same.trans s1 sH) s2) s3) ht (s3 _ _ hr2) ⟨V,rt,O⟩ hG.symm
end
end Sd
namespace L2
open PySem PySem.Spec PyProof.Rows
theorem PS.nox{X:Cx}{st:Stmt}{t:TS}(h:PS X.nox st t):PS X st t:=fun pins s σ H D I hw=>
 wpAny_mono (h pins s σ H D (I.wish _) hw) (fun _ _ q=>q.unwish) fun _ _ z=>False.elim z
theorem for_enum{K:PySem.W.Frag}{a:Addr}{xs:List V}{g:TG}{tb:TS}{D:Ends}{σ:St}{H:Hp}(Pv:Nat->St->Hp->Prop)(h0:Pv 0 σ H)(hl:∀i σ H,i<=xs.length->Pv i σ H->SqT K H a xs)
  (hs:∀(i:Nat) x σ H,xs[i]?=some x->Pv i σ H->∀T H1,Same H H1->H1 T=some (.tup [.int (i:Int),x])->g (.ref T) σ H1 fun σ2 H2=>tb {D with nx:=Pv (i+1),ct:=Pv (i+1),bk:=D.nx} σ2 H2) (hd:∀σ H,Pv xs.length σ H->D.nx σ H):
  ∃W:Nat->Nat->St->Hp->Prop,(∃m,W 0 m σ H)/\∀i m σ H,W i m σ H->
   ((Ite K a).stop i H/\D.nx σ H)\/((Ite K a).go i H/\∃N:St->Hp->Prop,(∀σ' H',N σ' H'->∃m',m'<m/\W (i+1) m' σ' H')/\∀x H',(Ite K a).yld i H x H'->g x σ H' fun σ2 H2=>tb {D with nx:=N,ct:=N,bk:=D.nx} σ2 H2):=by
 refine⟨fun i m σ H=>m=xs.length-i/\i<=xs.length/\Pv i σ H,⟨xs.length,by simp,Nat.zero_le _,h0⟩,?_⟩
 rintro i m σ H ⟨rfl,hi,p⟩
 have q:=hl i σ H hi p
 by_cases hlt:i<xs.length
 ·refine .inr ⟨⟨xs,xs[i],q,by simp[hlt]⟩,Pv (i+1),fun σ' H' p'=>⟨xs.length-(i+1),by omega,rfl,hlt,p'⟩,fun x H' y=>?_⟩
  obtain⟨T,u,rfl,hT,rfl,hu⟩:=y
  exact hs i u σ H (hu xs q) p T _ (same_add hT) upd_same
 ·have e:i=xs.length:=by omega
  subst e
  exact .inl ⟨⟨xs,q,Nat.le_refl _⟩,hd σ H p⟩
end L2
namespace My
open PySem L2
def Two(es:List (Nat×Nat)):Prop:=∃col:Nat->Bool,∀e∈es,col e.1≠col e.2
theorem odd_ring{col:Nat->Bool}{r:List Nat}{m:Nat}(h:∀k,k<2*m+1->col (r.getD k 0)= !col (r.getD (if k=0 then 2*m else k-1) 0)):False:=by
 have key:∀k,k<=2*m->col (r.getD k 0)=(col (r.getD 0 0) !=decide (k%2=1)):=by
  intro k
  induction k with
  |zero=>intro _;cases col (r.getD 0 0)<;>rfl
  |succ k ih=>
   intro hk
   have h1:=h (k+1) (by omega)
   rw[if_neg (by omega),Nat.add_sub_cancel]at h1
   rw[h1,ih (by omega)]
   have:k%2=0\/k%2=1:=by omega
   rcases this with e|e
   ·rw[decide_eq_false (by omega),decide_eq_true (show(k+1)%2=1 by omega)];cases col (r.getD 0 0)<;>rfl
   ·rw[decide_eq_true e,decide_eq_false (by omega)];cases col (r.getD 0 0)<;>rfl
 have h0:=h 0 (by simp)
 rw[if_pos rfl,key (2*m) (Nat.le_refl _),decide_eq_false (by simp)]at h0
 revert h0
 cases col (r.getD 0 0)<;>simp
theorem adj_col{es:List (Nat×Nat)}{col:Nat->Bool}(hc:∀e∈es,col e.1≠col e.2) {x y:Nat} (h:y∈Sd.adjF es es.length x):col y= !col x:=by
 rw[Sd.mem_adjF]at h
 obtain⟨k,h1,h2⟩:=h
 have hn:=hc _ (getD_mem h1)
 rcases h2 with z|z
 ·rw[z.1,z.2];revert hn;cases col (es.getD k (0,0)).1<;>cases col (es.getD k (0,0)).2<;>simp
 ·rw[z.1,z.2];revert hn;cases col (es.getD k (0,0)).1<;>cases col (es.getD k (0,0)).2<;>simp
theorem sides_ring:¬(V.str "sides"=V.str "ring"):=by decide+kernel
def nrm(e:Nat×Nat):Nat×Nat:=(min e.1 e.2,max e.1 e.2)
def Twin(es:List (Nat×Nat)):Prop:=∃i j,i<j/\j<es.length/\nrm (es.getD i (0,0))=nrm (es.getD j (0,0))
structure RingAt(H:Hp)(es:List (Nat×Nat))(n:Nat)(v:V)(R:List Nat)(m:Nat):Prop where
 at_:∃r,v= .ref r/\H r=some (.tup (nl R))
 len:R.length=2*m+1
 pos:1<=m
 lt:∀x∈R,x<n
 nd:R.Nodup
 tied:∀k,k<2*m+1->R.getD k 0∈Sd.adjF es es.length (R.getD (if k=0 then 2*m else k-1) 0)
theorem RingAt.same{H H':Hp}{es:List (Nat×Nat)}{n:Nat}{v:V}{R:List Nat}{m:Nat}(h:RingAt H es n v R m)(s:Same H H'):RingAt H' es n v R m:=
 ⟨let⟨r,a,b⟩:=h.at_;⟨r,a,s _ _ b⟩,h.len,h.pos,h.lt,h.nd,h.tied⟩
def PairAt(H:Hp)(es:List (Nat×Nat))(v:V):Prop:=∃(u:Addr)(i j:Nat),v= .ref u/\H u=some (.tup [.int (i:Int),.int (j:Int)])/\i<j/\j<es.length/\nrm (es.getD i (0,0))=nrm (es.getD j (0,0))
theorem PairAt.same{H H':Hp}{es:List (Nat×Nat)}{v:V}(h:PairAt H es v)(s:Same H H'):PairAt H' es v:=
 let⟨u,i,j,a,b,c⟩:=h;⟨u,i,j,a,s _ _ b,c⟩
def AkP(at':Nat)(cR cP:Addr)(H:Hp)(es:List (Nat×Nat))(n:Nat)(R:Hp->Prop)(E:XK):Prop:=
 (at'=1->¬Two es->∀H' dx v rg m,Same H H'->H' dx=none->RingAt H' es n v rg m->E (.ref cR) (some dx) (upd H' dx (.xd [("ring",v)])))/\
 (at'=2->Twin es->∀H' dx v,Same H H'->H' dx=none->PairAt H' es v->E (.ref cP) (some dx) (upd H' dx (.xd [("pair",v)])))/\
 ((at'=1->Two es)->(at'=2->¬Twin es)->∀H',Same H H'->R H')
theorem AkP.same{at':Nat}{cR cP:Addr}{H H1:Hp}{es:List (Nat×Nat)}{n:Nat}{R:Hp->Prop}{E:XK}(h:AkP at' cR cP H es n R E)(s:Same H H1):AkP at' cR cP H1 es n R E:=
 ⟨fun a b H' dx v rg m s'=>h.1 a b H' dx v rg m (Same.trans s s'),fun a b H' dx v s'=>h.2.1 a b H' dx v (Same.trans s s'),fun a b H' s'=>h.2.2 a b H' (Same.trans s s')⟩
structure GrF(P:Program)(w:World)(K:PySem.W.Frag)(mg:Str->Option Value)(base:Heap)(x f:Str)(C:Addr):Prop where
 ex:∃D fI fdI,RX.XCl K C D/\PySem.W.findIn K (.ref C) "__init__"=some (some (.ref fI))/\PySem.W.isFn K (.ref fI)=true/\FnOk P w K mg base CX0 1 fI fdI ["self",f] (RX.spInit C f)/\L2.Binds K fdI ["self",f] []
 g:mg x=some (.ref C)
section
variable{P:Program}{w:World}{K:PySem.W.Frag}{mg:Str->Option Value}{base:Heap}{cR cP cT:Addr}
abbrev sLp:Stmt:=top 60
abbrev nLp:List Str:=["net","first","tie","ends","pair"]
inductive spLp(vs:List V)(H:Hp)(Q:VK)(_z3:XK):Prop
 |mk (p:Addr) (n:Nat) (q:Addr) (ts:List V) (es:List (Nat×Nat)) (_:vs=[.ref p]) (_:NetZ H p n q ts es) (_:(¬Twin es->∀H',Same H H'->Q .non H')) (_:(∀H' v,Same H H'->PairAt H' es v->Q v H'))
theorem scLp:FnScope nLp ["net"] (defScope sLp):=⟨rfl,rfl,rfl,by decide+kernel,rfl,by decide+kernel,by decide+kernel⟩
theorem ok_lp{f:Addr}{fd:FuncData}(F:Fun K "like_pair" "like_pair" sLp f fd)(T:Bi mg)(hen:mg "enumerate"=none):FnOk P w K mg base CX0 1 f fd ["net"] spLp:=by
 refine F.ok scLp (fun vs H Q E h=>?_) (fun cdv A outer s H vs Q E hr h=>?_)
 ·obtain⟨p,n,q,ts,es,rfl,_⟩:=h
  rfl
 ·obtain⟨p,n,qa,ts,es,rfl,N,q0,q1⟩:=h
  have hu:=hu_of hr
  refine⟨_,pss_cons (ps_set (i:=1) scLp.nd rfl (Or.inl rfl) pe_dnewT)
   (pss_cons (ps_for PassesOwn.never rfl (pi_enum rfl hen (pa_c (pe_ix ix_tup (pv 0) pe_int (fun _ _=>rfl)) pa_nil) rfl) (pg_tup rfl (pgs_cons (pg_name (i:=2) scLp.nd rfl (Or.inl rfl)) (pgs_cons (pg_name (i:=3) scLp.nd rfl (Or.inl rfl)) pgs_nil)))
    (pss_cons (ps_set (i:=4) scLp.nd rfl (Or.inl rfl) (pe_tupS (pa_c (pe_callB (call_mins rfl) rfl T.min bMin (pa_c (pv 3) pa_nil)) (pa_c (pe_callB (call_maxs rfl) rfl T.max bMax (pa_c (pv 3) pa_nil)) pa_nil))))
    (pss_cons (ps_if (pt_cmp (pc_din hu (pv 4) (pv 1))) (pss_one (ps_ret (pe_tupS (pa_c (pe_dget hu (pv 1) (pv 4) (fun _ _=>rfl)) (pa_c (pv 2) pa_nil))))) pss_nil)
    (pss_one (ps_dput hu (pv 1) (pv 4) (pv 2) rfl)))))
   (pss_one (ps_ret pe_non))),?_⟩
  have h200:=N.l200
  have hlen:=N.len
  intro d hd
  have s0:Same H (upd H d (.dT [])):=same_new hd
  refine⟨_,rfl,p,_,_,_,rfl,rfl,SqT.of (s0 _ _ N.e1),rfl,qa,rfl,⟨_,SqT.of (s0 _ _ N.e2)⟩,for_enum (K:=K) (a:=qa) (xs:=ts) (fun i σ G=>∃(kvs:List (List Key×V))(v2 v3 v4:Option V),σ=[some (.ref p),some (.ref d),v2,v3,v4]/\Same H G/\G d=some (.dT kvs)/\kvs.length<=i/\(∀j,j<i->∃v,valV kvs (ky (nrm (es.getD j (0,0))).1 (nrm (es.getD j (0,0))).2)=some v)/\(∀a b v,valV kvs (ky a b)=some v->∃j,j<i/\v= .int (j:Int)/\nrm (es.getD j (0,0))=(a,b))/\(∀j k,j<k->k<i->nrm (es.getD j (0,0))≠nrm (es.getD k (0,0))))
   ⟨[],_,_,_,rfl,s0,upd_same,Nat.le_refl _,(fun j hj=>absurd hj (Nat.not_lt_zero _)),(fun a b v z=>by cases z),fun j k _ hk=>absurd hk (Nat.not_lt_zero _)⟩ (fun i σ G _⟨kvs,_,_,_,_,sG,_⟩=>SqT.of (sG _ _ N.e2)) (fun i x σ G hx xq1 TT G1 s1 hTT=>?_) (fun σ G xq1=>?_)⟩
  ·obtain⟨kvs,v2,v3,v4,e,sG,hD,hkv,hK1,hK2,hK3⟩:=xq1
   subst e
   have hi:i<es.length:=by rw[<-hlen];exact(List.getElem?_eq_some_iff.mp hx).1
   obtain⟨a,rfl,ha⟩:=N.tie i x hx
   have sG1:=Same.trans sG s1
   refine⟨TT,_,rfl,SqT.of hTT,rfl,_,_,rfl,_,_,rfl,rfl,?_⟩
   obtain⟨A1,hA⟩:∃A1,(es.getD i (0,0)).1=A1:=⟨_,rfl⟩
   obtain⟨B1,hB⟩:∃B1,(es.getD i (0,0)).2=B1:=⟨_,rfl⟩
   rw[hA,hB]at ha
   have hn:nrm (es.getD i (0,0))=(min A1 B1,max A1 B1):=by unfold nrm;rw[hA,hB]
   refine⟨_,rfl,a,[(A1:Int),(B1:Int)],rfl,.inr (SqT.of (sG1 _ _ ha)),(by show 0<2;decide),fun M1 m1 m2=>?_⟩
   refine⟨_,rfl,a,[(A1:Int),(B1:Int)],rfl,.inr (SqT.of (sG1 _ _ ha)),(by show 0<2;decide),fun M2 m3 m4=>?_⟩
   have e1:M1=((min A1 B1:Nat):Int):=by
    have h1:=m2 (A1:Int) (.head _)
    have h2:=m2 (B1:Int) (.tail _ (.head _))
    simp only[List.mem_cons,List.not_mem_nil,or_false]at m1
    omega
   have e2:M2=((max A1 B1:Nat):Int):=by
    have h1:=m4 (A1:Int) (.head _)
    have h2:=m4 (B1:Int) (.tail _ (.head _))
    simp only[List.mem_cons,List.not_mem_nil,or_false]at m3
    omega
   subst e1 e2
   refine⟨rfl,fun u G2 s2 hu'=>?_⟩
   have sG2:=Same.trans sG1 s2
   have hD2:=s2 _ _ (s1 _ _ hD)
   refine⟨_,rfl,_,rfl,d,_,rfl,DGet.t (k:=ky (min A1 B1) (max A1 B1)) hD2 hu',_,rfl,?_⟩
   cases hv:valV kvs (ky (min A1 B1) (max A1 B1))with
   |some v=>
    obtain⟨j,hj,rfl,hnj⟩:=hK2 _ _ _ hv
    have hg:=DGet.t (k:=ky (min A1 B1) (max A1 B1)) hD2 hu'
    rw[hv]at hg
    refine iteT ⟨_,rfl,_,rfl,d,_,rfl,hg,_,rfl,rfl,fun t G3 s3 ht=>?_⟩
    exact q1 G3 (.ref t) (Same.trans sG2 s3) ⟨t,j,i,rfl,ht,hj,hi,by rw[hnj,hn]⟩
   |none=>
    have l1:=length_putK kvs (ky (min A1 B1) (max A1 B1)) (V.int (i:Int))
    refine iteF ⟨_,rfl,_,rfl,_,rfl,d,_,rfl,DPut.t (k:=ky (min A1 B1) (max A1 B1)) hD2 hu' (by rw[sizeLine_eq];omega),?_⟩
    refine⟨_,_,_,_,rfl,sG2.wr hd,upd_same,by omega,fun j hj=>?_,fun a' b' v hv'=>?_,fun j k hjk hk=>?_⟩
    ·rw[valV_put]
     split
     ·exact⟨_,rfl⟩
     ·next hne=>
      rcases Nat.lt_succ_iff_lt_or_eq.mp hj with z|z
      ·exact hK1 j z
      ·subst z
       exact absurd (by rw[hn]) hne
    ·rw[valV_put]at hv'
     split at hv'
     ·next he=>
      cases hv'
      obtain⟨z1,z2⟩:=ky_inj he
      exact⟨i,Nat.lt_succ_self _,rfl,by rw[hn,z1,z2]⟩
     ·obtain⟨j,z1,z2,z3⟩:=hK2 _ _ _ hv'
      exact⟨j,by omega,z2,z3⟩
    ·rcases Nat.lt_succ_iff_lt_or_eq.mp hk with z|z
     ·exact hK3 j k hjk z
     ·subst z
      intro he
      obtain⟨v,hv2⟩:=hK1 j hjk
      rw[he,hn]at hv2
      rw[hv]at hv2
      cases hv2
  ·obtain⟨kvs,v2,v3,v4,e,sG,hD,hkv,hK1,hK2,hK3⟩:=xq1
   subst e
   rw[show ts.length=es.length from hlen]at hK3
   refine q0 (fun⟨i,j,h1,h2,h3⟩=>hK3 i j h1 h2 h3) G sG
def g0(m:Int):Int:=if 0>2*m-1 then 0 else 2*m-1
def g1(m:Int):Int:=m
def g2(m:Int):Int:=if m>0 then m+1 else 0
def g3(m:Int):Int:=3*m/2
def spN(g:Int->Int):Sp:=fun vs H Q _=>∃(p:Addr)(m:Int),vs=[.ref p,.int m]/\0<=m/\Q (.int (g m)) H
abbrev sW:Stmt:=inClass (top 43) 0
abbrev sP:Stmt:=inClass (top 65) 0
abbrev sM:Stmt:=inClass (top 47) 0
abbrev sT:Stmt:=inClass (top 72) 0
theorem scW:FnScope ["self","most"] ["self","most"] (defScope sW):=⟨rfl,rfl,rfl,by decide+kernel,rfl,by decide+kernel,by decide+kernel⟩
theorem scP:FnScope ["self","most"] ["self","most"] (defScope sP):=⟨rfl,rfl,rfl,by decide+kernel,rfl,by decide+kernel,by decide+kernel⟩
theorem scM:FnScope ["self","most"] ["self","most"] (defScope sM):=⟨rfl,rfl,rfl,by decide+kernel,rfl,by decide+kernel,by decide+kernel⟩
theorem scT:FnScope ["self","most"] ["self","most"] (defScope sT):=⟨rfl,rfl,rfl,by decide+kernel,rfl,by decide+kernel,by decide+kernel⟩
theorem ok_W{f:Addr}{fd:FuncData}(F:Fun K "needed" "Way.needed" sW f fd)(T:Bi mg):FnOk P w K mg base CX0 1 f fd ["self","most"] (spN g0):=by
 refine F.ok scW (fun vs H Q E h=>?_) (fun cdv A outer s H vs Q E hr h=>?_)
 ·obtain⟨p,m,rfl,_⟩:=h
  rfl
 ·obtain⟨p,m,rfl,h0,q⟩:=h
  refine⟨_,pss_one (ps_ret (pe_callB (call_max2 rfl) rfl T.max bMax (pa_c (pe_op op_sub (pe_op op_mul pe_int (pv 1)) pe_int) (pa_c pe_int pa_nil)))),?_⟩
  exact⟨_,rfl,_,_,rfl,rfl,.inl ⟨by decide,by decide⟩,_,_,rfl,rfl,_,_,rfl,q⟩
theorem ok_M{f:Addr}{fd:FuncData}(F:Fun K "needed" "Manifold.needed" sM f fd):FnOk P w K mg base CX0 1 f fd ["self","most"] (spN g3):=by
 refine F.ok scM (fun vs H Q E h=>?_) (fun cdv A outer s H vs Q E hr h=>?_)
 ·obtain⟨p,m,rfl,_⟩:=h
  rfl
 ·obtain⟨p,m,rfl,h0,q⟩:=h
  refine⟨_,pss_one (ps_ret (pe_op op_fdiv (pe_op op_mul pe_int (pv 1)) pe_int)),?_⟩
  exact⟨_,rfl,_,_,rfl,rfl,.inl ⟨by decide,by decide⟩,_,_,rfl,rfl,⟨by decide,by decide⟩,q⟩
theorem ok_T{f:Addr}{fd:FuncData}(F:Fun K "needed" "TwoSided.needed" sT f fd):FnOk P w K mg base CX0 1 f fd ["self","most"] (spN g1):=by
 refine F.ok scT (fun vs H Q E h=>?_) (fun cdv A outer s H vs Q E hr h=>?_)
 ·obtain⟨p,m,rfl,_⟩:=h
  rfl
 ·obtain⟨p,m,rfl,h0,q⟩:=h
  exact⟨_,pss_one (ps_ret (pv 1)),_,rfl,q⟩
theorem ok_P{f:Addr}{fd:FuncData}(F:Fun K "needed" "Plain.needed" sP f fd):FnOk P w K mg base CX0 1 f fd ["self","most"] (spN g2):=by
 refine F.ok scP (fun vs H Q E h=>?_) (fun cdv A outer s H vs Q E hr h=>?_)
 ·obtain⟨p,m,rfl,_⟩:=h
  rfl
 ·obtain⟨p,m,rfl,h0,q⟩:=h
  refine⟨_,pss_one (ps_ret (pe_ifExp (pt_cmpR op_gt (pv 1) pe_int (nomark _)) (pe_op op_add (pv 1) pe_int) pe_int)),?_⟩
  refine⟨_,rfl,_,_,rfl,rfl,_,rfl,?_⟩
  unfold g2 at q
  refine ite2 (fun hz=>?_) (fun hz=>?_)
  ·have:m>0:=of_decide_eq_true hz
   rw[if_pos this]at q
   exact⟨_,rfl,_,_,rfl,rfl,q⟩
  ·have:¬m>0:=fun z=>hz (decide_eq_true z)
   rw[if_neg this]at q
   exact q
end
end My
namespace L2
open PySem PySem.Spec PyProof.Rows
theorem ix_tupK{X:Cx}{K:PySem.W.Frag}(hK:X.K=K):IxR X (rIxT K):=by
 subst hK
 exact ix_tup
theorem call_dictK{X:Cx}:CallR X (.type "dict") (fun xs H Q=>∃a kvs,xs=[.ref a]/\H a=some (.dK kvs)/\∀p,H p=none->Q (.ref p) (upd H p (.dK kvs))):=by
 intro pins s σ H xs us Q I r h
 obtain⟨a,kvs,rfl,hd,q⟩:=h
 obtain⟨u,rfl,rx⟩:=vals1 r
 cases(show u=Value.ref a from rx)
 exact d_copyOf I (.inl hd) fun p s' hp I'=>⟨.ref p,_,I',rfl,q p hp⟩
end L2
namespace Tx
open PySem
theorem len_cps(z:Str):z.cps.toList.length=z.length:=by simp[Str.length]
theorem in_sign(c:Nat)(z:Str):(!(Builtin.Str.occurrences z ⟨#[c]⟩ 0 z.length 1).isEmpty)=decide (c∈z.cps.toList):=by
 rw[PyProof.Rows.empty_one,Bool.not_not]
abbrev sp:Str:=Str.ofString " "
abbrev nln:Str:=Str.ofString "\n"
def meetB:List Str->Bool
 |[a,b]=>nameB a&&(nameB b&& !decide (a=b))
 |[a,b,c]=>nameB a&&(nameB b&&(!decide (a=b)&&hourB c))
 |_=>false
end Tx
namespace My
open PySem L2 Tx
def compS:Expr->Scope
 | .ListComp _ _ s _=>s
 | .Call _ [e] _ _=>compS e
 | .BoolOp _ [_,e] _=>compS e
 | .IfExp _ e _ _=>compS e
 | .UnaryOp _ e _=>compS e
 | .BinOp _ _ e _=>compS e
 |_=>{kind:= .function,names:=[],isGenerator:=false,isCoroutine:=false}
def retX:Stmt->Expr
 | .Return (some e) _=>e
 | .Assign _ e _=>e
 | .If e _ _ _=>e
 |_=> .Constant .none 0 ⟨0,0,0,0⟩
def stAt(n i:Nat):Stmt:=(defBody (top n)).getD i (.Pass ⟨0,0,0,0⟩)
theorem bAll:bootBuiltins "all"=some (.builtin "all"):=by decide+kernel
theorem bStr:bootBuiltins "str"=some (.type "str"):=by decide+kernel
def Rws(H:Hp)(xs:List V)(ws:List (List Str)):Prop:=xs.length=ws.length/\∀(i:Nat) w,ws[i]?=some w->∃a,xs[i]?=some (.ref a)/\H a=some (.lst (w.map V.str))
theorem Rws.keep{H H':Hp}{xs:List V}{ws:List (List Str)}(r:Rws H xs ws)(s:Same H H'):Rws H' xs ws:=⟨r.1,fun i w h=>let⟨a,e,g⟩:=r.2 i w h;⟨a,e,s _ _ g⟩⟩
theorem Rws.nil{H:Hp}:Rws H [] []:=⟨rfl,fun i w h=>by cases h⟩
section
variable{P:Program}{w:World}{K:PySem.W.Frag}{mg:Str->Option Value}{base:Heap}
abbrev sWd:Stmt:=top 52
abbrev nWd:List Str:=["thing","signs","most"]
abbrev wdScope:Scope:=compS (retX (stAt 52 0))
inductive spWd(vs:List V)(H:Hp)(Q:VK)(_z3:XK):Prop
 |mk (z sg:Str) (m:Int) (_:vs=[.str z,.str sg,.int m]) (_:z.length<=100000) (_:∀H',Same H H'->Q (.bl (wordB sg m z)) H')
theorem ndWd:(["sign","signs"]:List Str).Nodup:=by decide+kernel
theorem scWd:FnScope nWd nWd (defScope sWd):=⟨rfl,rfl,rfl,by decide+kernel,rfl,by decide+kernel,by decide+kernel⟩
theorem blkWd{f:Addr}{cdv:Value}{A:Around}{outer:List Env}{s:Shared}{H:Hp}{E:XK}:
  Blk (cxOf CX0 P w K mg base nWd "is_word" (defScope sWd) f cdv A outer s H E).nox wdScope [("signs",s.heap.objs.size+1)] ["sign","signs"] [none,some 1]:=by
 refine⟨rfl,rfl,by decide+kernel,by decide+kernel,fun p hp=>?_,fun y hy e=>?_,⟨rfl,rfl,rfl⟩,trivial⟩
 ·rw[List.mem_singleton.mp hp]
  rfl
 ·have hy':y∈[((PySem.Str.ofString ".0":Str),NameKind.local),(PySem.Str.ofString "sign",.local),(PySem.Str.ofString "signs",.free)]:=hy
  simp only[List.mem_cons,List.not_mem_nil,or_false]at hy'
  rcases hy' with rfl|rfl|rfl<;>first|rfl|cases e
theorem ok_wd{f:Addr}{fd:FuncData}(F:Fun K "is_word" "is_word" sWd f fd)(T:Bi mg)(hall:mg "all"=none):FnOk P w K mg base CX0 1 f fd nWd spWd:=by
 refine F.ok scWd (fun vs H Q E h=>?_) (fun cdv A outer s H vs Q E hr h=>?_)
 ·obtain⟨z,sg,m,rfl,_⟩:=h
  rfl
 ·obtain⟨z,sg,m,rfl,hz,q⟩:=h
  refine⟨_,pss_one (ps_ret (pe_and (pe_chain op_le op_le pe_int (pe_callB call_len_str rfl T.len bLen (pa_c (pv 0) pa_nil)) (pv 2)) (pe_one (pe_callB (call_all rfl) rfl hall bAll (pa_c (pe_lcS blkWd rfl (pv 0) (mono_var 0)
   (fun C fp s H=>pg_name (i:=0) ndWd rfl (Or.inl rfl) (hf:=Or.inr rfl)) (fun C fp s H=>pts_nil) (fun C fp s H=>pe_cmpR op_in_str (pv 0) (pv 1) rfl)) pa_nil))))),?_⟩
  refine⟨_,rfl,z,rfl,leMil hz,_,_,rfl,rfl,_,rfl,?_⟩
  refine ite2 (fun h1=>⟨_,rfl,_,_,rfl,rfl,_,rfl,?_⟩) (fun h1=>⟨_,rfl,iteF (by rw[show wordB sg m z=false from by unfold wordB;rw[Bool.eq_false_iff.mpr h1];rfl]at q;exact q H (Same.refl H))⟩)
  refine ite2 (fun h2=>?_) (fun h2=>by rw[show wordB sg m z=false from by unfold wordB;rw[h1,Bool.eq_false_iff.mpr h2];rfl]at q;exact q H (Same.refl H))
  refine⟨_,rfl,z,rfl,hz,fun i ys σ H'=>Same H H'/\ys=((z.cps.toList.take i).map fun c=>V.bl (decide (c∈sg.cps.toList)))/\∃v0,σ=[v0,some (.str sg)],⟨Same.refl H,rfl,none,rfl⟩,fun i ys σ H' hi xq1=>?_,fun i c ys σ H' hc xq1=>?_,fun ys σ H' xq1 l H2 s2 hl=>?_⟩
  ·obtain⟨e1,e2,_⟩:=xq1
   subst e2
   rw[List.length_map,List.length_take]
   omega
  ·obtain⟨e1,e2,v0,e3⟩:=xq1
   subst e2 e3
   refine⟨_,rfl,_,rfl,_,_,rfl,rfl,e1,?_,_,rfl⟩
   rw[in_sign,List.take_succ,List.map_append,Array.getElem?_toList,hc]
   rfl
  ·obtain⟨e1,e2,_⟩:=xq1
   refine⟨l,z.cps.toList.map fun c=>decide (c∈sg.cps.toList),rfl,SqL.of (hl.trans ?_),?_⟩
   ·rw[e2,List.take_of_length_le (by rw[len_cps];exact Nat.le_refl _),List.map_map]
    rfl
   ·have e:wordB sg m z=(z.cps.toList.map fun c=>decide (c∈sg.cps.toList)).all id:=by
     unfold wordB
     rw[h1,h2,List.all_map]
     rfl
    rw[<-e]
    exact q H2 (Same.trans e1 s2)
abbrev sNm:Stmt:=top 53
theorem scNm:FnScope ["thing"] ["thing"] (defScope sNm):=⟨rfl,rfl,rfl,by decide+kernel,rfl,by decide+kernel,by decide+kernel⟩
end
end My
namespace Tx
open PySem L2
def addN(acc:List Str)(z:Str):List Str:=if z∈acc then acc else acc++[z]
def addNs(acc ws:List Str):List Str:=ws.foldl addN acc
theorem addNs_app(acc ws vs:List Str):addNs acc (ws++vs)=addNs (addNs acc ws) vs:=List.foldl_append
theorem mem_addN{acc:List Str}{z y:Str}:y∈addN acc z↔y∈acc\/y=z:=by
 unfold addN
 split
 ·rename_i h
  exact⟨.inl,fun e=>e.elim id fun e=>by rw[e];exact h⟩
 ·rw[List.mem_append,List.mem_singleton]
theorem mem_addNs{y:Str}:∀{ws acc:List Str},y∈addNs acc ws↔y∈acc\/y∈ws
 |[],acc=>by simp[addNs]
 |z::ws,acc=>by
  show y∈addNs (addN acc z) ws↔_
  rw[mem_addNs,mem_addN,List.mem_cons,or_assoc]
theorem nodup_addN{acc:List Str}{z:Str}(h:acc.Nodup):(addN acc z).Nodup:=by
 unfold addN
 split
 ·exact h
 ·rename_i hz
  rw[List.nodup_append]
  exact⟨h,by simp,fun a ha b hb e=>hz (by rw[<-List.mem_singleton.mp hb,<-e];exact ha)⟩
theorem nodup_addNs:∀{ws acc:List Str},acc.Nodup->(addNs acc ws).Nodup
 |[],acc,h=>h
 |z::ws,acc,h=>nodup_addNs (ws:=ws) (nodup_addN h)
theorem len_addNs:∀{ws acc:List Str},(addNs acc ws).length<=acc.length+ws.length
 |[],acc=>Nat.le_refl _
 |z::ws,acc=>by
  have h:(addN acc z).length<=acc.length+1:=by
   unfold addN
   split
   ·simp
   ·rw[List.length_append];exact Nat.le_refl _
  have:=len_addNs (ws:=ws) (acc:=addN acc z)
  show(addNs (addN acc z) ws).length<=_
  rw[List.length_cons]
  omega
def idx:List Str->Str->Nat
 |[],_=>0
 |y::u,z=>if y=z then 0 else idx u z+1
theorem idx_at:∀{u:List Str}{z:Str},z∈u->u[idx u z]?=some z
 |[],_,h=>by cases h
 |y::u,z,h=>by
  unfold idx
  split
  ·rename_i e;rw[e];rfl
  ·rename_i e
   rw[List.getElem?_cons_succ]
   exact idx_at ((List.mem_cons.mp h).resolve_left fun z=>e z.symm)
theorem idx_lt{u:List Str}{z:Str}(h:z∈u):idx u z<u.length:=(List.getElem?_eq_some_iff.mp (idx_at h)).1
def plcF:Nat->List Str->List (Key×V)
 |_,[]=>[]
 |k,y::u=>(.inr y,.int (k:Int))::plcF (k+1) u
theorem plc_cons{k:Nat}{y:Str}{u:List Str}:plcF k (y::u)=(.inr y,.int (k:Int))::plcF (k+1) u:=rfl
theorem plc_len:∀{u:List Str}{k:Nat},(plcF k u).length=u.length
 |[],_=>rfl
 |y::u,k=>by rw[plc_cons,List.length_cons,List.length_cons,plc_len]
theorem plc_keys:∀{u:List Str}{k:Nat},((plcF k u).map fun kv=>kV kv.1)=u.map V.str
 |[],_=>rfl
 |y::u,k=>by rw[plc_cons,List.map_cons,List.map_cons,plc_keys];rfl
theorem plc_app:∀{u:List Str}{k:Nat}{z:Str},plcF k (u++[z])=plcF k u++[(.inr z,.int ((k+u.length:Nat):Int))]
 |[],_,_=>rfl
 |y::u,k,z=>by
  show(_,_)::plcF (k+1) (u++[z])=(_,_)::(plcF (k+1) u++_)
  rw[plc_app,List.length_cons,show k+1+u.length=k+(u.length+1) by omega]
theorem plc_out:∀{u:List Str}{k:Nat}{z:Str},z ∉ u->valV (plcF k u) (.inr z)=none
 |[],_,_,_=>rfl
 |y::u,k,z,h=>by
  rw[plc_cons,valV_neg (fun e=>h (by rw[Sum.inr.inj e];exact List.mem_cons_self))]
  exact plc_out fun m=>h (List.mem_cons_of_mem _ m)
theorem plc_in:∀{u:List Str}{k:Nat}{z:Str},z∈u->valV (plcF k u) (.inr z)=some (.int ((k+idx u z:Nat):Int))
 |[],_,_,h=>by cases h
 |y::u,k,z,h=>by
  by_cases e:y=z
  ·rw[plc_cons,valV_pos (by rw[e]),show idx (y::u) z=0 from if_pos e]
   rfl
  ·rw[plc_cons,valV_neg (fun q=>e (Sum.inr.inj q)),plc_in ((List.mem_cons.mp h).resolve_left fun q=>e q.symm),show idx (y::u) z=idx u z+1 from if_neg e,show k+1+idx u z=k+(idx u z+1) by omega]
theorem plc_put{u:List Str}{z:Str}(h:z ∉ u):putK (plcF 0 u) (.inr z) (.int (u.length:Int))=plcF 0 (u++[z]):=by
 rw[plc_app,Nat.zero_add]
 unfold putK
 refine if_neg fun q=>?_
 obtain⟨kv,m,e⟩:=List.any_eq_true.mp q
 have e:=of_decide_eq_true e
 have hm:kV kv.1∈(plcF 0 u).map fun kv=>kV kv.1:=List.mem_map.mpr ⟨kv,m,rfl⟩
 rw[plc_keys,e]at hm
 obtain⟨y,my,ey⟩:=List.mem_map.mp hm
 have:y=z:=V.str.inj ey
 exact h (by rw[<-this];exact my)
structure Ln where
 a:Str
 b:Str
 h:Option Int
def Ln.ok(l:Ln):Prop:=nameB l.a=true/\nameB l.b=true/\l.a≠l.b/\∀n,l.h=some n->0<=n/\n<1000
def Ln.ws(l:Ln):List Str:=match l.h with
 |none=>[l.a,l.b]
 |some n=>[l.a,l.b,num n]
def lineT(l:Ln):Str:=Str.join sp l.ws
def txt(ls:List Ln):Str:=Str.join nln (ls.map lineT)
theorem hour_ok{n:Int}(h0:0<=n)(h1:n<1000):hourB (num n)=true/\∀c∈(num n).cps.toList,c≠32/\c≠10:=by
 have:=hour_all ⟨n.toNat,by omega⟩
 rw[show((n.toNat:Nat):Int)=n by omega]at this
 obtain⟨e1,e2⟩:=Bool.and_eq_true_iff.mp this
 refine⟨e1,fun c hc=>?_⟩
 have:=List.all_eq_true.mp e2 c hc
 simpa using this
theorem name_ok{z:Str}(h:nameB z=true):1<=z.length/\z.length<=8/\∀c∈z.cps.toList,c≠32/\c≠10:=by
 unfold nameB wordB at h
 obtain⟨e1,e2⟩:=Bool.and_eq_true_iff.mp h
 obtain⟨e2,e3⟩:=Bool.and_eq_true_iff.mp e2
 have e1:=of_decide_eq_true e1
 have e2:=of_decide_eq_true e2
 refine⟨by omega,by omega,fun c hc=>?_⟩
 have:=lett_all c (of_decide_eq_true (List.all_eq_true.mp e3 c hc))
 simpa using this
theorem hour_len{n:Int}(h0:0<=n)(h1:n<1000):1<=(num n).length/\(num n).length<=3:=by
 have h:=(hour_ok h0 h1).1
 unfold hourB wordB at h
 obtain⟨h,_⟩:=Bool.and_eq_true_iff.mp h
 obtain⟨e1,e2⟩:=Bool.and_eq_true_iff.mp h
 obtain⟨e2,e3⟩:=Bool.and_eq_true_iff.mp e2
 have e1:=of_decide_eq_true e1
 have e2:=of_decide_eq_true e2
 omega
theorem Ln.ok.free{l:Ln}(h:l.ok):∀p∈l.ws,∀c∈p.cps.toList,c≠32/\c≠10:=by
 obtain⟨h1,h2,_,h4⟩:=h
 intro p hp
 unfold Ln.ws at hp
 split at hp
 ·simp only[List.mem_cons,List.not_mem_nil,or_false]at hp
  rcases hp with rfl|rfl
  ·exact(name_ok h1).2.2
  ·exact(name_ok h2).2.2
 ·rename_i n e
  simp only[List.mem_cons,List.not_mem_nil,or_false]at hp
  rcases hp with rfl|rfl|rfl
  ·exact(name_ok h1).2.2
  ·exact(name_ok h2).2.2
  ·exact(hour_ok (h4 n e).1 (h4 n e).2).2
theorem line_len{l:Ln}(h:l.ok):3<=(lineT l).length/\(lineT l).length<=21:=by
 obtain⟨h1,h2,_,h4⟩:=h
 have n1:=name_ok h1
 have n2:=name_ok h2
 have s1:sp.length=1:=by decide+kernel
 unfold lineT Ln.ws
 split
 ·rw[join_two,join_one,len_app,len_app]
  omega
 ·rename_i n e
  have:=hour_len (h4 n e).1 (h4 n e).2
  rw[join_two,join_two,join_one,len_app,len_app,len_app,len_app]
  omega
def tieOf(u:List Str)(l:Ln):Nat×Nat:=(idx u l.a,idx u l.b)
def hV:Option Int->V
 |none=> .non
 |some n=> .int n
end Tx
namespace My
open PySem L2 Tx
def Prs(H:Hp)(xs:List V)(ts:List (Nat×Nat)):Prop:=xs.length=ts.length/\∀(i:Nat) t,ts[i]?=some t->∃a,xs[i]?=some (.ref a)/\H a=some (.tup [.int (t.1:Int),.int (t.2:Int)])
theorem Prs.keep{H H':Hp}{xs:List V}{ws:List (Nat×Nat)}(r:Prs H xs ws)(s:Same H H'):Prs H' xs ws:=⟨r.1,fun i w h=>let⟨a,e,g⟩:=r.2 i w h;⟨a,e,s _ _ g⟩⟩
theorem Prs.nil{H:Hp}:Prs H [] []:=⟨rfl,fun i w h=>by cases h⟩
theorem take_map{α β:Type}{f:α->β}{l:List α}{i:Nat}{x:α}(h:l[i]?=some x):(l.take (i+1)).map f=(l.take i).map f++[f x]:=by
 rw[List.take_succ,h,List.map_append]
 rfl
end My
namespace Tx
open PySem
theorem emp_app(z:Str):Str.empty++z=z:=sext (by rw[app_cps];rfl)
theorem app_assoc(a b c:Str):a++b++c=a++(b++c):=sext (by rw[app_cps,app_cps,app_cps,app_cps,List.append_assoc])
theorem sp_len:sp.length=1:=by decide+kernel
end Tx
namespace My
open PySem L2 Tx
section
variable{P:Program}{w:World}{K:PySem.W.Frag}{mg:Str->Option Value}{base:Heap}
abbrev sLo:Stmt:=top 55
inductive spLo(vs:List V)(H:Hp)(Q:VK)(_z3:XK):Prop
 |mk (l:Ln) (_:vs=[.str l.a,.str l.b,hV l.h]) (_:l.ok) (_:Q (.str (lineT l)) H)
theorem scLo:FnScope ["one","other","tint"] ["one","other","tint"] (defScope sLo):=⟨rfl,rfl,rfl,by decide+kernel,rfl,by decide+kernel,by decide+kernel⟩
theorem ok_lo{f:Addr}{fd:FuncData}(F:Fun K "line_of" "line_of" sLo f fd):FnOk P w K mg base CX0 1 f fd ["one","other","tint"] spLo:=by
 refine F.ok scLo (fun vs H Q E h=>?_) (fun cdv A outer s H vs Q E hr h=>?_)
 ·obtain⟨l,rfl,_⟩:=h
  rfl
 ·obtain⟨l,rfl,hok,q⟩:=h
  have n1:=name_ok hok.1
  have n2:=name_ok hok.2.1
  have s1:=sp_len
  refine⟨_,pss_one (ps_ret (pe_ifExp (pt_cmpR op_isN (pv 2) pe_non (nomark _)) (pe_fstr (pjs_cons (pj_fmt (pv 0)) (pjs_cons pj_str (pjs_cons (pj_fmt (pv 1)) pjs_nil))))
   (pe_fstr (pjs_cons (pj_fmt (pv 0)) (pjs_cons pj_str (pjs_cons (pj_fmt (pv 1)) (pjs_cons pj_str (pjs_cons (pj_fmt (pv 2)) pjs_nil)))))))),?_⟩
  cases hh:l.h with
  |none=>
   have e:lineT l=l.a++sp++l.b:=by unfold lineT Ln.ws;rw[hh];rfl
   rw[e]at q
   refine⟨_,rfl,rfl,_,rfl,ite2 (fun _=>?_) (fun h=>absurd (decide_eq_true rfl) h)⟩
   refine⟨_,rfl,l.a,.inl ⟨rfl,by omega⟩,by rw[emp_app];omega,sp,.inl ⟨rfl,by omega⟩,by rw[emp_app,len_app];omega,_,rfl,l.b,.inl ⟨rfl,by omega⟩,by rw[emp_app,len_app,len_app];omega,by rw[emp_app,len_app,len_app];omega,?_⟩
   rw[emp_app]
   exact q
  |some n=>
   obtain⟨n0,n9⟩:=hok.2.2.2 n hh
   have n3:=hour_len n0 n9
   have e:lineT l=l.a++sp++(l.b++sp++num n):=by unfold lineT Ln.ws;rw[hh];rfl
   rw[e]at q
   refine⟨_,rfl,rfl,_,rfl,ite2 (fun h=>absurd (of_decide_eq_true h) (by simp[hV])) (fun _=>?_)⟩
   refine⟨_,rfl,l.a,.inl ⟨rfl,by omega⟩,by rw[emp_app];omega,sp,.inl ⟨rfl,by omega⟩,by rw[emp_app,len_app];omega,_,rfl,l.b,.inl ⟨rfl,by omega⟩,by rw[emp_app,len_app,len_app];omega,sp,.inl ⟨rfl,by omega⟩,by rw[emp_app,len_app,len_app,len_app];omega,_,rfl,num n,.inr ⟨n,rfl,?_,rfl⟩,by rw[emp_app,len_app,len_app,len_app,len_app];omega,by rw[emp_app,len_app,len_app,len_app,len_app];omega,?_⟩
   ·refine Nat.lt_of_le_of_lt (Nat.log2_le_self _) (by omega)
   ·rw[emp_app]
    rw[app_assoc l.a,app_assoc l.a,app_assoc l.a,app_assoc sp,app_assoc sp,app_assoc l.b]at*
    first|exact q|(simp only[app_assoc]at q⊢;exact q)
end
end My
namespace Tx
open PySem
theorem sum_lines:∀{ls:List Ln},(∀l∈ls,l.ok)->((ls.map lineT).map (·.length)).sum<=21*ls.length
 |[],_=>Nat.le_refl _
 |l::ls,h=>by
  have h1:=(line_len (h l (by simp))).2
  have h2:=sum_lines (ls:=ls) fun x m=>h x (List.mem_cons_of_mem _ m)
  simp only[List.map_cons,List.sum_cons,List.length_cons]at h2⊢
  omega
end Tx
namespace My
open PySem L2 Tx
section
variable{P:Program}{w:World}{K:PySem.W.Frag}{mg:Str->Option Value}{base:Heap}
abbrev sSh:Stmt:=top 56
abbrev nSh:List Str:=["names","net","tints"]
abbrev shS:Scope:=compS (retX (stAt 56 0))
inductive spSh(vs:List V)(H:Hp)(Q:VK)(_z3:XK):Prop
 |mk (pn pe pt ph:Addr) (n:V) (xs:List V) (u:List Str) (ls:List Ln) (_:vs=[.ref pn,.ref pe,.ref ph]) (_:H pn=some (.tup (u.map V.str))) (_:H pe=some (.tup [n,.ref pt])) (_:H pt=some (.tup xs)) (_:Prs H xs (ls.map (tieOf u))) (_:H ph=some (.tup (ls.map fun l=>hV l.h))) (_:(∀l∈ls,l.ok/\l.a∈u/\l.b∈u)) (_:ls.length<=120) (_:∀H',Same H H'->Q (.str (txt ls)) H')
theorem ndSh:(["ends","tint","names"]:List Str).Nodup:=by decide+kernel
theorem scSh:FnScope nSh nSh (defScope sSh):=⟨rfl,rfl,rfl,by decide+kernel,rfl,by decide+kernel,by decide+kernel⟩
theorem blkSh{f:Addr}{cdv:Value}{A:Around}{outer:List Env}{s:Shared}{H:Hp}{E:XK}:
  Blk (cxOf CX0 P w K mg base nSh "shown" (defScope sSh) f cdv A outer s H E).nox shS [("names",s.heap.objs.size+1)] ["ends","tint","names"] [none,none,some 0]:=by
 refine⟨rfl,rfl,by decide+kernel,by decide+kernel,fun p hp=>?_,fun y hy e=>?_,⟨rfl,rfl,rfl⟩,trivial⟩
 ·rw[List.mem_singleton.mp hp]
  rfl
 ·have hy':y∈[((PySem.Str.ofString ".0":Str),NameKind.local),(PySem.Str.ofString "ends",.local),(PySem.Str.ofString "tint",.local),(PySem.Str.ofString "line_of",.globalImplicit),(PySem.Str.ofString "names",.free)]:=hy
  simp only[List.mem_cons,List.not_mem_nil,or_false]at hy'
  rcases hy' with rfl|rfl|rfl|rfl|rfl<;>first|rfl|cases e
theorem ok_sh{f:Addr}{fd:FuncData}(F:Fun K "shown" "shown" sSh f fd)(hzi:mg "zip"=none)(FL:FnE P w K mg base "line_of" ["one","other","tint"] 1 spLo):FnOk P w K mg base CX0 2 f fd nSh spSh:=by
 refine F.ok scSh (fun vs H Q E h=>?_) (fun cdv A outer s H vs Q E hr h=>?_)
 ·obtain⟨pn,pe,pt,ph,n,xs,u,ls,rfl,_⟩:=h
  rfl
 ·obtain⟨pn,pe,pt,ph,n,xs,u,ls,rfl,h1,h2,h3,h4,h5,hok,hls,q⟩:=h
  have hxl:xs.length=ls.length:=by rw[h4.1,List.length_map]
  refine⟨_,pss_one (ps_ret (pe_bm PySem.F.plainAttrs_str PySem.F.slot_str_join PySem.F.type_str_join mt_join pe_str (pa_c (pe_lcZ blkSh rfl rfl hzi (pa_c (pe_ix ix_tup (pv 1) pe_int (fun _ _=>rfl)) (pa_c (pv 2) pa_nil)) (monoA_cons (mono_ixT (mono_var 1) (mono_c _)) (monoA_cons (mono_var 2) monoA_nil)) rfl rfl
   (fun C fp s H=>pg_tupK (K:=K) (n:=2) rfl rfl (@pgs_cons _ _ _ _ _ (pg_name (i:=0) ndSh rfl (Or.inl rfl) (hf:=Or.inr rfl)) (@pgs_cons _ _ _ _ _ (pg_name (i:=1) ndSh rfl (Or.inl rfl) (hf:=Or.inr rfl)) pgs_nil rfl) rfl) rfl rfl)
   (fun C fp s H=>pts_nil) (fun C fp s H=>pe_fc FL hr (pa_c (pe_ix (ix_tupK (K:=K) rfl) (pv 2) (pe_ix (ix_tupK (K:=K) rfl) (pv 0) pe_int (fun _ _=>rfl)) (fun _ _=>rfl)) (pa_c (pe_ix (ix_tupK (K:=K) rfl) (pv 2) (pe_ix (ix_tupK (K:=K) rfl) (pv 0) pe_int (fun _ _=>rfl)) (fun _ _=>rfl)) (pa_c (pv 1) pa_nil))))) pa_nil))),?_⟩
  refine⟨rfl,_,rfl,pe,_,1,_,rfl,rfl,SqT.of h2,atI_nat (j:=1) rfl,_,rfl,pt,ph,xs,_,rfl,SqT.of h3,SqT.of h5,by rw[List.length_map];exact hxl,by omega,fun i zs σ G=>Same H G/\zs=(ls.take i).map (fun l=>V.str (lineT l))/\∃v0 v1,σ=[v0,v1,some (.ref pn)],⟨Same.refl _,rfl,none,none,rfl⟩,
   fun i zs σ G hi⟨e1,e2,_⟩=>⟨SqT.of (e1 _ _ h3),SqT.of (e1 _ _ h5),by rw[e2,List.length_map,List.length_take];omega⟩,fun i x y zs σ G hx hy xq1 Tt G2 s2 hT=>?_,fun zs σ G xq1 l3 G3 s3 hl3=>?_⟩
  ·obtain⟨e1,e2,v0,v1,e3⟩:=xq1
   subst e3
   have hi:i<ls.length:=by rw[<-hxl];exact(List.getElem?_eq_some_iff.mp hx).1
   have hq:=List.getElem?_eq_getElem hi
   have hm:ls[i]∈ls:=List.getElem_mem hi
   have e4:=take_map (f:=fun l:Ln=>V.str (lineT l)) hq
   generalize ls[i]=ln at hq hm e4
   obtain⟨a,ea,ha⟩:=h4.2 i (tieOf u ln) (by rw[List.getElem?_map,hq];rfl)
   rw[hx]at ea
   cases ea
   rw[List.getElem?_map,hq]at hy
   cases hy
   obtain⟨ok1,ua,ub⟩:=hok ln hm
   have sG2:=Same.trans e1 s2
   have ga:(u.map V.str)[idx u ln.a]?=some (.str ln.a):=by rw[List.getElem?_map,idx_at ua];rfl
   have gb:(u.map V.str)[idx u ln.b]?=some (.str ln.b):=by rw[List.getElem?_map,idx_at ub];rfl
   refine⟨Tt,_,rfl,SqT.of hT,rfl,_,_,rfl,_,_,rfl,rfl,?_⟩
   refine⟨_,rfl,_,rfl,a,_,0,_,rfl,rfl,SqT.of (sG2 _ _ ha),atI_nat (j:=0) rfl,pn,_,_,_,rfl,rfl,SqT.of (sG2 _ _ h1),atI_nat ga,?_⟩
   refine⟨_,rfl,_,rfl,a,_,1,_,rfl,rfl,SqT.of (sG2 _ _ ha),atI_nat (j:=1) rfl,pn,_,_,_,rfl,rfl,SqT.of (sG2 _ _ h1),atI_nat gb,?_⟩
   refine⟨_,rfl,ln,rfl,ok1,sG2,?_,_,_,rfl⟩
   rw[e4,e2]
  ·obtain⟨e1,e2,_⟩:=xq1
   rw[hxl,List.take_length]at e2
   have hsum:=sum_lines fun l m=>(hok l m).1
   refine⟨nln,l3,ls.map lineT,rfl,rfl,SqL.of (by rw[hl3,e2,List.map_map];rfl),(by decide+kernel),by rw[List.length_map];omega,q G3 (Same.trans e1 s3)⟩
end
end My
namespace My
open PySem L2
inductive spBel(vs:List V)(H:Hp)(Q:VK)(_z3:XK):Prop
 |mk (i n:Int) (_:vs=[.int i,.int n]) (_:0<=i) (_:i<n) (_:Q (.bl true) H)
theorem bel_of{vs:List V}{H:Hp}{Q:VK}{E:XK}(h:spBel vs H Q E):spBel2 vs H Q E:=by
 obtain⟨i,n,rfl,h0,h1,q⟩:=h
 refine⟨.int i,n,rfl,.int i,?_⟩
 have e:bel (.int i) n=true:=by
  show(decide (0<=i)&&decide (i<n))=true
  rw[decide_eq_true h0,decide_eq_true h1]
  rfl
 rw[e]
 exact q
def tintV(k t:Nat):List V:=[.str "tint",.int (k:Int),.int (t:Int)]
section
variable{P:Program}{w:World}{K:PySem.W.Frag}{mg:Str->Option Value}{base:Heap}
abbrev sIt:Stmt:=top 29
inductive spIt(vs:List V)(H:Hp)(Q:VK)(_z3:XK):Prop
 |mk (i:Nat) (_:vs=[.int (i:Int)]) (_:i<1000) (_:Q (.bl true) H)
theorem scIt:FnScope ["thing"] ["thing"] (defScope sIt):=⟨rfl,rfl,rfl,by decide+kernel,rfl,by decide+kernel,by decide+kernel⟩
theorem ok_it{f:Addr}{fd:FuncData}{tA:Tok}(F:Fun K "is_tint" "is_tint" sIt f fd)(mA:mg "ALL_TINTS"=some (.int 1000 tA))(FB:FnE P w K mg base "is_below" ["thing","bound"] 2 spBel):FnOk P w K mg base CX0 3 f fd ["thing"] spIt:=by
 refine F.ok scIt (fun vs H Q E h=>?_) (fun cdv A outer s H vs Q E hr h=>?_)
 ·obtain⟨i,rfl,_⟩:=h
  rfl
 ·obtain⟨i,rfl,h0,q⟩:=h
  refine⟨_,pss_one (ps_ret (pe_fc FB hr (pa_c (pv 0) (pa_c (pe_glob (v:= .int 1000) rfl mA ⟨_,rfl⟩) pa_nil)))),?_⟩
  exact⟨_,rfl,(i:Int),1000,rfl,by simp,by omega,q⟩
end
theorem tint_turn:¬(V.str "tint"=V.str "turn"):=by decide+kernel
section
variable{P:Program}{w:World}{K:PySem.W.Frag}{mg:Str->Option Value}{base:Heap}
abbrev sPc:Stmt:=top 30
abbrev nPc:List Str:=["net","tints","taken","ends","tint","point"]
inductive spPc(vs:List V)(H:Hp)(Q:VK)(_z3:XK):Prop
 |mk (p r n q ts es tl:_) (_:vs=[.ref p,.ref r]) (_:NetZ H p n q ts es) (_:H r=some (.lst (tv tl))) (_:tl.length=es.length) (_:∀H' b,Same H H'->(b=true↔CleanTo es tl es.length)->Q (.bl b) H')
theorem scPc:FnScope nPc ["net","tints"] (defScope sPc):=⟨rfl,rfl,rfl,by decide+kernel,rfl,by decide+kernel,by decide+kernel⟩
theorem ok_pc{f:Addr}{fd:FuncData}(F:Fun K "is_clean" "is_clean" sPc f fd)(T:Bi mg):FnOk P w K mg base CX0 1 f fd ["net","tints"] spPc:=by
 refine F.ok scPc (fun vs H Q E h=>?_) (fun cdv A outer s H vs Q E hr h=>?_)
 ·obtain⟨p,r,n,q,ts,es,tl,rfl,_⟩:=h
  rfl
 ·obtain⟨p,r,n,qa,ts,es,tl,rfl,N,hR,htl,q⟩:=h
  have hu:=hu_of hr
  refine⟨_,pss_cons (ps_set (i:=2) scPc.nd rfl (Or.inl rfl) pe_dnewT)
   (pss_cons (ps_for PassesOwn.never rfl (pi_zip rfl T.zip (pa_c (pe_ix ix_tup (pv 0) pe_int (fun _ _=>rfl)) (pa_c (pv 1) pa_nil)) rfl rfl) (pg_tup rfl (pgs_cons (pg_name (i:=3) scPc.nd rfl (Or.inl rfl)) (pgs_cons (pg_name (i:=4) scPc.nd rfl (Or.inl rfl)) pgs_nil)))
    (pss_one (ps_if (pt_cmpR op_notN (pv 4) pe_non (nomark _))
     (pss_one (ps_for PassesOwn.never rfl (pi_tup (pv 3)) (pg_name (i:=5) scPc.nd rfl (Or.inl rfl))
      (pss_cons (ps_if (pt_cmp (pc_din hu (pe_tupS (pa_c (pv 5) (pa_c (pv 4) pa_nil))) (pv 2))) (pss_one (ps_ret pe_bl)) pss_nil)
      (pss_one (ps_dput hu (pv 2) (pe_tupS (pa_c (pv 5) (pa_c (pv 4) pa_nil))) pe_bl rfl))))) pss_nil)))
   (pss_one (ps_ret pe_bl))),?_⟩
  have h200:=N.l200
  have hlen:=N.len
  intro d hd
  have s0:Same H (upd H d (.dT [])):=same_new hd
  refine⟨_,rfl,p,_,_,_,rfl,rfl,SqT.of (s0 _ _ N.e1),rfl,_,rfl,qa,r,rfl,⟨_,SqT.of (s0 _ _ N.e2)⟩,⟨_,SqL.of (s0 _ _ hR)⟩,for_zip (K:=K) (a:=qa) (c:=r) (xs:=ts) (ys:=tv tl) (fun i σ H'=>∃kvs v3 v4 v5,σ=[some (.ref p),some (.ref r),some (.ref d),v3,v4,v5]/\Same H H'/\H' d=some (.dT kvs)/\kvs.length<=2*i/\CleanTo es tl i/\Keys kvs (Used es tl i))
   (by rw[tv_len];omega) ⟨[],_,_,_,rfl,s0,upd_same,Nat.le_refl _,CleanTo.zero _ _,fun p t=>⟨(fun z=>by cases z),fun z=>absurd z Used.zero⟩⟩ (fun i σ H' _⟨kvs,v3,v4,v5,_,sH,_⟩=>⟨SqT.of (sH _ _ N.e2),SqL.of (sH _ _ hR)⟩) (fun i x y σ H' hx hy xq1 TT H1 s1 hTT=>?_) (fun σ H' xq1=>?_)⟩
  ·obtain⟨kvs,v3,v4,v5,e,sH,hD,hkv,hC,hK⟩:=xq1
   subst e
   have hi:i<ts.length:=(List.getElem?_eq_some_iff.mp hx).1
   have hie:i<es.length:=by omega
   obtain⟨o,ho,rfl⟩:=tv_inv hy
   obtain⟨a,rfl,ha⟩:=N.tie i x hx
   obtain⟨_,_,ab⟩:=N.ok _ (getD_mem hie)
   have sH1:=Same.trans sH s1
   refine⟨TT,_,rfl,SqT.of hTT,rfl,_,_,rfl,_,_,rfl,rfl,?_⟩
   refine⟨_,rfl,rfl,_,rfl,?_⟩
   cases o with
   |none=>
    refine iteF ⟨kvs,_,_,_,rfl,sH1,s1 _ _ hD,by omega,hC.succ fun t z=>?_,hK.iff fun x t=>?_⟩
    ·rw[ho]at z;cases z
    ·rw[Used.succ,ho]
     exact⟨.inl,fun z=>z.elim id fun⟨z1,_⟩=>by cases z1⟩
   |some t=>
    refine iteT ?_
    generalize hA:(es.getD i (0,0)).1=A1 at*
    generalize hB:(es.getD i (0,0)).2=B1 at*
    have at1:At (es.getD i (0,0)) A1:= .inl hA.symm
    have at2:At (es.getD i (0,0)) B1:= .inr hB.symm
    refine⟨_,rfl,a,rfl,⟨_,SqT.of (sH1 _ _ ha)⟩,for_tup (K:=K) (a:=a) (xs:=[.int (A1:Int),.int (B1:Int)]) (fun j σ G=>∃kvs' w5,σ=[some (.ref p),some (.ref r),some (.ref d),some (.ref a),some (.int (t:Int)),w5]/\Same H G/\G d=some (.dT kvs')/\kvs'.length<=2*i+j/\Keys kvs' (fun x t'=>Used es tl i x t'\/(t'=t/\((1<=j/\x=A1)\/(2<=j/\x=B1))))/\(1<=j->¬Used es tl i A1 t)/\(2<=j->¬Used es tl i B1 t))
     ⟨kvs,_,rfl,sH1,s1 _ _ hD,by omega,hK.iff fun x t'=>⟨.inl,fun z=>z.elim id fun⟨_,z2⟩=>by omega⟩,(fun z=>by omega),fun z=>by omega⟩ (fun j σ G _⟨kvs',w5,_,sG,_⟩=>SqT.of (sG _ _ ha)) (fun j x σ G hx' xq1=>?_) (fun σ G xq1=>?_)⟩
    ·obtain⟨kvs',w5,e,sG,gD,gk,gK,g1,g2⟩:=xq1
     subst e
     obtain⟨X1,rfl,hj,hat,hnot,hks,hnew⟩:∃X1:Nat,x= .int (X1:Int)/\j<2/\At (es.getD i (0,0)) X1/\((Used es tl i X1 t\/(t=t/\((1<=j/\X1=A1)\/(2<=j/\X1=B1))))->Used es tl i X1 t)/\
       (∀x' t',((Used es tl i x' t'\/(t'=t/\((1<=j/\x'=A1)\/(2<=j/\x'=B1))))\/(x'=X1/\t'=t))↔(Used es tl i x' t'\/(t'=t/\((1<=j+1/\x'=A1)\/(2<=j+1/\x'=B1)))))/\(¬Used es tl i X1 t->(1<=j+1->¬Used es tl i A1 t)/\(2<=j+1->¬Used es tl i B1 t)):=by
      match j,hx' with
      |0,hx'=>
       cases hx'
       refine⟨A1,rfl,by decide,at1,fun z=>z.elim id fun⟨_,z⟩=>by omega,fun x' t'=>?_,fun z=>⟨fun _=>z,fun z'=>by omega⟩⟩
       constructor
       ·rintro((z|⟨_,z⟩)|⟨rfl,rfl⟩)
        ·exact .inl z
        ·omega
        ·exact .inr ⟨rfl,.inl ⟨by decide,rfl⟩⟩
       ·rintro(z|⟨rfl,⟨_,rfl⟩|⟨z,_⟩⟩)
        ·exact .inl (.inl z)
        ·exact .inr ⟨rfl,rfl⟩
        ·omega
      |1,hx'=>
       cases hx'
       refine⟨B1,rfl,by decide,at2,fun z=>z.elim id fun⟨_,z⟩=>by omega,fun x' t'=>?_,fun z=>⟨fun _=>g1 (by decide),fun _=>z⟩⟩
       constructor
       ·rintro((z|⟨rfl,z⟩)|⟨rfl,rfl⟩)
        ·exact .inl z
        ·exact .inr ⟨rfl,z.imp (fun⟨_,z⟩=>⟨by decide,z⟩) fun⟨z,_⟩=>by omega⟩
        ·exact .inr ⟨rfl,.inr ⟨by decide,rfl⟩⟩
       ·rintro(z|⟨rfl,⟨_,rfl⟩|⟨_,rfl⟩⟩)
        ·exact .inl (.inl z)
        ·exact .inl (.inr ⟨rfl,.inl ⟨by decide,rfl⟩⟩)
        ·exact .inr ⟨rfl,rfl⟩
      |j+2,hx'=>cases hx'
     refine⟨_,rfl,_,rfl,rfl,fun t1 G1 u1 h1=>⟨_,rfl,d,_,rfl,DGet.t (k:=ky X1 t) (u1 _ _ gD) h1,_,rfl,?_⟩⟩
     refine ite2 (fun hz=>?_) (fun hz=>?_)
     ·exact q G1 false (Same.trans sG u1) ⟨(fun z=>by cases z),fun z=>absurd z (CleanTo.not hie ho hat (hnot ((gK _ _).mp hz)))⟩
     ·have l1:=length_putK kvs' (ky X1 t) (V.bl true)
      refine⟨_,rfl,_,rfl,_,rfl,rfl,fun t2 G2 u2 h2=>⟨d,_,rfl,DPut.t (k:=ky X1 t) (u2 _ _ (u1 _ _ gD)) h2 (by rw[sizeLine_eq];omega),?_⟩⟩
      exact⟨_,_,rfl,(Same.trans (Same.trans sG u1) u2).wr hd,upd_same,by omega,(gK.put _ _ _).iff hks,hnew fun z=>hz ((gK _ _).mpr (.inl z))⟩
    ·obtain⟨kvs',w5,e,sG,gD,gk,gK,g1,g2⟩:=xq1
     subst e
     refine⟨kvs',_,_,_,rfl,sG,gD,(by simp only[List.length_cons,List.length_nil]at gk;omega),hC.succ fun t' z x hx'=>?_,gK.iff fun x t'=>?_⟩
     ·rw[ho]at z
      cases z
      rcases hx' with rfl|rfl
      ·rw[hA];exact g1 (by show 1<=2;decide)
      ·rw[hB];exact g2 (by show 2<=2;decide)
     ·rw[Used.succ,ho]
      constructor
      ·rintro(z|⟨rfl,⟨_,rfl⟩|⟨_,rfl⟩⟩)
       ·exact .inl z
       ·exact .inr ⟨rfl,at1⟩
       ·exact .inr ⟨rfl,at2⟩
      ·rintro(z|⟨z,hx'⟩)
       ·exact .inl z
       ·cases z
        rcases hx' with rfl|rfl
        ·exact .inr ⟨rfl,.inl ⟨by show 1<=2;decide,hA⟩⟩
        ·exact .inr ⟨rfl,.inr ⟨by show 2<=2;decide,hB⟩⟩
  ·obtain⟨kvs,v3,v4,v5,e,sH,hD,hkv,hC,hK⟩:=xq1
   rw[show ts.length=es.length from hlen]at hC
   exact q H' true sH ⟨fun _=>hC,fun _=>rfl⟩
abbrev sTn:Stmt:=top 36
inductive spTn(vs:List V)(H:Hp)(Q:VK)(_z3:XK):Prop
 |mk (p u:Addr) (n:Nat) (q:Addr) (ts:List V) (es:List (Nat×Nat)) (k t:Nat) (_:vs=[.ref p,.ref u]) (_:NetZ H p n q ts es) (_:H u=some (.tup (tintV k t))) (_:(k<es.length/\t<1000)) (_:Q (.bl true) H)
theorem scTn:FnScope ["net","thing"] ["net","thing"] (defScope sTn):=⟨rfl,rfl,rfl,by decide+kernel,rfl,by decide+kernel,by decide+kernel⟩
theorem ok_tn{f:Addr}{fd:FuncData}(F:Fun K "is_tint_step" "is_tint_step" sTn f fd)(T:Bi mg)(FB:FnE P w K mg base "is_below" ["thing","bound"] 3 spBel)(FI:FnE P w K mg base "is_tint" ["thing"] 3 spIt):FnOk P w K mg base CX0 4 f fd ["net","thing"] spTn:=by
 refine F.ok scTn (fun vs H Q E h=>?_) (fun cdv A outer s H vs Q E hr h=>?_)
 ·obtain⟨p,u,n,q,ts,es,k,t,rfl,_⟩:=h
  rfl
 ·obtain⟨p,u,n,qa,ts,es,k,t,rfl,N,hU,⟨o1,o2⟩,q⟩:=h
  refine⟨_,pss_one (ps_ret (pe_and (pe_cmpR op_eq (pe_callB call_len_seq rfl T.len bLen (pa_c (pv 1) pa_nil)) pe_int (nomark _))
   (pe_and (pe_fc FB hr (pa_c (pe_ix ix_tup (pv 1) pe_int (fun _ _=>rfl)) (pa_c (pe_callB call_len_seq rfl T.len bLen (pa_c (pe_ix ix_tup (pv 0) pe_int (fun _ _=>rfl)) pa_nil)) pa_nil)))
    (pe_one (pe_fc FI hr (pa_c (pe_ix ix_tup (pv 1) pe_int (fun _ _=>rfl)) pa_nil)))))),?_⟩
  have hlen:=N.len
  refine⟨_,rfl,u,_,rfl,.inr (SqT.of hU),rfl,_,rfl,?_⟩
  refine ite2 (fun _=>?_) (fun z=>absurd (decide_eq_true rfl) z)
  refine⟨_,rfl,u,_,_,_,rfl,rfl,SqT.of hU,rfl,_,rfl,p,_,_,_,rfl,rfl,SqT.of N.e1,rfl,qa,_,rfl,.inr (SqT.of N.e2),(k:Int),_,rfl,by simp,by omega,_,rfl,iteT ?_⟩
  exact⟨_,rfl,u,_,_,_,rfl,rfl,SqT.of hU,rfl,t,rfl,o2,q⟩
end
theorem tv_set(tl:List (Option Nat))(k:Nat)(o:Option Nat):(tv tl).set k (tN o)=tv (tl.set k o):=by unfold tv;rw[List.map_set]
section
variable{P:Program}{w:World}{K:PySem.W.Frag}{mg:Str->Option Value}{base:Heap}
abbrev sIs:Stmt:=top 38
theorem scIs:FnScope ["net","thing"] ["net","thing"] (defScope sIs):=⟨rfl,rfl,rfl,by decide+kernel,rfl,by decide+kernel,by decide+kernel⟩
theorem ok_is{f:Addr}{fd:FuncData}(F:Fun K "is_step" "is_step" sIs f fd)(T:Bi mg)(hst:mg "str"=none)(FN:FnE P w K mg base "is_tint_step" ["net","thing"] 4 spTn):FnOk P w K mg base CX0 5 f fd ["net","thing"] spTn:=by
 refine F.ok scIs (fun vs H Q E h=>?_) (fun cdv A outer s H vs Q E hr h=>?_)
 ·obtain⟨p,u,n,q,ts,es,k,t,rfl,_⟩:=h
  rfl
 ·obtain⟨p,u,n,qa,ts,es,k,t,rfl,N,hU,ok,q⟩:=h
  refine⟨_,pss_cons (ps_if (PW.pt (pw_or (pt_not (pt_val (pe_callB call_isinst rfl T.isi bIsi (pa_c (pv 1) (pa_c (pe_bltn (v:= .ty "tuple") rfl T.tuple bTuple rfl) pa_nil)))))
    (pw_or (pt_cmpR op_eq (pe_callB call_len_seq rfl T.len bLen (pa_c (pv 1) pa_nil)) pe_int (nomark _))
    (pw_or1 (pt_not (pt_val (pe_callB call_isinst rfl T.isi bIsi (pa_c (pe_ix ix_tup (pv 1) pe_int (fun _ _=>rfl)) (pa_c (pe_bltn (v:= .ty "str") rfl hst bStr rfl) pa_nil))))))))) pss_never pss_nil)
   (pss_cons (ps_if (pt_cmpR op_eq (pe_ix ix_tup (pv 1) pe_int (fun _ _=>rfl)) pe_str (nomark _)) pss_never pss_nil)
   (pss_cons (ps_if (pt_cmpR op_eq (pe_ix ix_tup (pv 1) pe_int (fun _ _=>rfl)) pe_str (nomark _)) (pss_one (ps_ret (pe_fc FN hr (pa_c (pv 0) (pa_c (pv 1) pa_nil))))) pss_nil)
   pss_never)),?_⟩
  refine⟨_,rfl,_,_,_,_,rfl,.tup hU,kit K "tuple" "tuple" true (by decide+kernel),_,rfl,iteF ?_⟩
  refine⟨_,rfl,u,_,rfl,.inr (SqT.of hU),rfl,_,rfl,iteF ?_⟩
  refine⟨_,rfl,u,_,_,_,rfl,rfl,SqT.of hU,rfl,_,_,_,_,rfl,.str _,kit K "str" "str" true (by decide+kernel),_,rfl,iteF ?_⟩
  refine⟨_,rfl,u,_,_,_,rfl,rfl,SqT.of hU,rfl,rfl,_,rfl,?_⟩
  refine ite2 (fun z=>absurd (of_decide_eq_true z) tint_turn) (fun _=>?_)
  refine⟨_,rfl,u,_,_,_,rfl,rfl,SqT.of hU,rfl,rfl,_,rfl,?_⟩
  refine ite2 (fun _=>?_) (fun z=>absurd (decide_eq_true rfl) z)
  exact⟨_,rfl,_,rfl,p,u,n,qa,ts,es,k,t,rfl,N,hU,ok,q⟩
abbrev sDo:Stmt:=top 39
abbrev nDo:List Str:=["net","tints","step","row"]
structure DoT(H:Hp)(p r:Addr)(n:Nat)(q:Addr)(ts:List V)(es:List (Nat×Nat))(tl:List (Option Nat))(k t:Nat):Prop where
 N:NetZ H p n q ts es
 hR:H r=some (.tup (tv tl))
 len:tl.length=es.length
 ok:k<es.length/\t<1000
 cl:CleanTo es (tl.set k (some t)) es.length
theorem DoT.same{H H':Hp}{p r:Addr}{n:Nat}{q:Addr}{ts:List V}{es:List (Nat×Nat)}{tl:List (Option Nat)}{k t:Nat}(h:DoT H p r n q ts es tl k t)(s:Same H H'):DoT H' p r n q ts es tl k t:=⟨h.N.same s,s _ _ h.hR,h.len,h.ok,h.cl⟩
inductive spDo(vs:List V)(H:Hp)(Q:VK)(_z3:XK):Prop
 |mk (p r u:Addr) (n:Nat) (q:Addr) (ts:List V) (es:List (Nat×Nat)) (tl:List (Option Nat)) (k t:Nat) (_:vs=[.ref p,.ref r,.ref u]) (_:DoT H p r n q ts es tl k t) (_:H u=some (.tup (tintV k t))) (_:∀H' z,Same H H'->H' z=some (.tup (tv (tl.set k (some t))))->Q (.ref z) H')
theorem scDo:FnScope nDo ["net","tints","step"] (defScope sDo):=⟨rfl,rfl,rfl,by decide+kernel,rfl,by decide+kernel,by decide+kernel⟩
theorem ok_do{f:Addr}{fd:FuncData}(F:Fun K "done" "done" sDo f fd)(T:Bi mg)(FI:FnE P w K mg base "is_step" ["net","thing"] 5 spTn)(FC:FnE P w K mg base "is_clean" ["net","tints"] 5 spPc):FnOk P w K mg base CX0 6 f fd ["net","tints","step"] spDo:=by
 refine F.ok scDo (fun vs H Q E h=>?_) (fun cdv A outer s H vs Q E hr h=>?_)
 ·obtain⟨p,r,u,n,q,ts,es,tl,k,t,rfl,_⟩:=h
  rfl
 ·obtain⟨p,r,u,n,qa,ts,es,tl,k,t,rfl,D,hU,q⟩:=h
  refine⟨_,pss_cons (ps_if (pt_not (pt_val (pe_fc FI hr (pa_c (pv 0) (pa_c (pv 2) pa_nil))))) pss_never pss_nil)
   (pss_cons (ps_if (pt_cmpR op_eq (pe_ix ix_tup (pv 2) pe_int (fun _ _=>rfl)) pe_str (nomark _)) pss_never pss_nil)
   (pss_cons (ps_set (i:=3) scDo.nd rfl (Or.inl rfl) (pe_callTy call_list_of rfl T.list bList (pa_c (pv 1) pa_nil)))
   (pss_cons (ps_asg (pe_ifExp (pt_cmpR op_eq (pe_ix ix_tup (pv 2) pe_int (fun _ _=>rfl)) pe_str (nomark _)) (pe_ix ix_tup (pv 2) pe_int (fun _ _=>rfl)) pe_non) (pg_sub (pv 3) (pe_ix ix_tup (pv 2) pe_int (fun _ _=>rfl)) set_listN))
   (pss_cons (ps_if (pt_not (pt_val (pe_fc FC hr (pa_c (pv 0) (pa_c (pv 3) pa_nil))))) pss_never pss_nil)
   (pss_one (ps_ret (pe_callTy call_tuple_ofS rfl T.tuple bTuple (pa_c (pv 3) pa_nil)))))))),?_⟩
  refine⟨_,rfl,_,rfl,p,u,n,qa,ts,es,k,t,rfl,D.N,hU,D.ok,_,rfl,iteF ?_⟩
  refine⟨_,rfl,u,_,_,_,rfl,rfl,SqT.of hU,rfl,rfl,_,rfl,?_⟩
  refine ite2 (fun z=>absurd (of_decide_eq_true z) tint_turn) (fun _=>?_)
  refine⟨_,rfl,r,_,rfl,.inr (SqT.of D.hR),fun ro hro=>?_⟩
  have s0:Same H (upd H ro (.lst (tv tl))):=same_new hro
  have g0:(upd H ro (.lst (tv tl))) ro=some (.lst (tv tl)):=upd_same
  generalize upd H ro (.lst (tv tl))=H0 at s0 g0
  refine⟨_,rfl,u,_,_,_,rfl,rfl,SqT.of (s0 _ _ hU),rfl,rfl,_,rfl,?_⟩
  refine ite2 (fun _=>?_) (fun z=>absurd (decide_eq_true rfl) z)
  have hkl:k<(tv tl).length:=by rw[tv_len,D.len];exact D.ok.1
  refine⟨_,rfl,u,_,_,_,rfl,rfl,SqT.of (s0 _ _ hU),rfl,_,rfl,_,rfl,u,_,_,_,rfl,rfl,SqT.of (s0 _ _ hU),rfl,ro,_,k,rfl,rfl,g0,hkl,?_⟩
  have e1:(tv tl).set k (.int (t:Int))=tv (tl.set k (some t)):=by rw[<-tv_set];rfl
  rw[e1]
  have s1:Same H (upd H0 ro (.lst (tv (tl.set k (some t))))):=s0.wr hro
  have g1:(upd H0 ro (.lst (tv (tl.set k (some t))))) ro=some (.lst (tv (tl.set k (some t)))):=upd_same
  generalize upd H0 ro (.lst (tv (tl.set k (some t))))=H1 at s1 g1
  refine⟨_,rfl,_,rfl,p,ro,n,qa,ts,es,tl.set k (some t),rfl,D.N.same s1,g1,by rw[List.length_set];exact D.len,fun H2 b s2 hb=>⟨_,rfl,?_⟩⟩
  have eb:=hb.mpr D.cl
  subst eb
  refine iteF ⟨_,rfl,ro,_,rfl,.inl (s2 _ _ g1),fun t' H3 s3 ht=>?_⟩
  exact q H3 t' (Same.trans (Same.trans s1 s2) s3) ht
abbrev sWa:Stmt:=top 40
abbrev nWa:List Str:=["net","tints","steps","told","now","step"]
inductive spWa(vs:List V)(H:Hp)(Q:VK)(_z3:XK):Prop
 |mk (p r l u:Addr) (n:Nat) (q:Addr) (ts:List V) (es:List (Nat×Nat)) (tl:List (Option Nat)) (k t:Nat) (_:vs=[.ref p,.ref r,.ref l]) (_:DoT H p r n q ts es tl k t) (_:H l=some (.lst [.ref u])) (_:H u=some (.tup (tintV k t))) (_:∀H' d z,Same H H'->H' d=some (.lst [.ref z])->H' z=some (.tup (tv (tl.set k (some t))))->Q (.ref d) H')
theorem scWa:FnScope nWa ["net","tints","steps"] (defScope sWa):=⟨rfl,rfl,rfl,by decide+kernel,rfl,by decide+kernel,by decide+kernel⟩
theorem ok_wa{f:Addr}{fd:FuncData}(F:Fun K "walked" "walked" sWa f fd)(FD:FnE P w K mg base "done" ["net","tints","step"] 6 spDo):FnOk P w K mg base CX0 7 f fd ["net","tints","steps"] spWa:=by
 refine F.ok scWa (fun vs H Q E h=>?_) (fun cdv A outer s H vs Q E hr h=>?_)
 ·obtain⟨p,r,l,u,n,q,ts,es,tl,k,t,rfl,_⟩:=h
  rfl
 ·obtain⟨p,r,l,u,n,qa,ts,es,tl,k,t,rfl,DT,hL,hU,q⟩:=h
  refine⟨_,pss_cons (ps_set (i:=3) scWa.nd rfl (Or.inl rfl) (pe_lst pa_nil))
   (pss_cons (ps_set (i:=4) scWa.nd rfl (Or.inl rfl) (pv 1))
   (pss_cons (ps_for PassesOwn.never rfl (pi_list (pv 2)) (pg_name (i:=5) scWa.nd rfl (Or.inl rfl))
    (pss_cons (ps_set (i:=4) scWa.nd rfl (Or.inl rfl) (pe_fc FD hr (pa_c (pv 0) (pa_c (pv 4) (pa_c (pv 5) pa_nil)))))
    (pss_one (ps_expr (pe_bm PySem.F.plainAttrs_list PySem.F.slot_list_append PySem.F.type_list_append mt_append (pv 3) (pa_c (pv 4) pa_nil))))))
   (pss_one (ps_ret (pv 3))))),?_⟩
  refine⟨Nat.zero_le _,fun D hD=>?_⟩
  have s0:Same H (upd H D (.lst [])):=same_new hD
  have g0:(upd H D (.lst [])) D=some (.lst []):=upd_same
  generalize upd H D (.lst [])=H0 at s0 g0
  refine⟨_,rfl,_,rfl,l,rfl,⟨_,SqL.of (s0 _ _ hL)⟩,for_list (K:=K) (a:=l) (xs:=[V.ref u]) (fun i σ G=>Same H G/\∃rr v5 xs,σ=[some (.ref p),some (.ref r),some (.ref l),some (.ref D),some (.ref rr),v5]/\G D=some (.lst xs)/\((i=0/\rr=r/\xs=[])\/(i=1/\xs=[.ref rr]/\G rr=some (.tup (tv (tl.set k (some t)))))))
   ⟨s0,r,_,[],rfl,g0,.inl ⟨rfl,rfl,rfl⟩⟩ (fun i σ G _ z=>SqL.of (z.1 _ _ hL)) (fun i x σ G hx xq1=>?_) (fun σ G xq1=>?_)⟩
  ·obtain⟨sH,rr,v5,xs,e,gD,hc⟩:=xq1
   subst e
   have hi:=(List.getElem?_eq_some_iff.mp hx).1
   rw[List.length_singleton]at hi
   rcases hc with⟨rfl,rfl,rfl⟩|⟨rfl,_⟩
   ·cases hx
    refine⟨_,rfl,_,rfl,_,rfl,p,rr,u,n,qa,ts,es,tl,k,t,rfl,DT.same sH,sH _ _ hU,fun G1 r1 s1 h1=>?_⟩
    have gD1:=s1 _ _ gD
    refine⟨_,rfl,.inl ⟨rfl,_,SqL.of gD1⟩,_,rfl,D,_,_,rfl,rfl,gD1,(by rw[sizeLine_eq];decide),?_⟩
    refine⟨(Same.trans sH s1).wr hD,r1,_,[.ref r1],rfl,upd_same,.inr ⟨rfl,rfl,?_⟩⟩
    rw[upd_ne fun z=>by rw[z,gD1]at h1;cases h1]
    exact h1
   ·trivial
  ·obtain⟨sH,rr,v5,xs,e,gD,hc⟩:=xq1
   subst e
   rcases hc with⟨z,_⟩|⟨_,rfl,hz⟩
   ·cases z
   ·exact⟨_,rfl,q G D rr sH gD hz⟩
abbrev sBh:Stmt:=top 41
inductive spBh(vs:List V)(H:Hp)(Q:VK)(_z3:XK):Prop
 |mk (p r l u:Addr) (n:Nat) (q:Addr) (ts:List V) (es:List (Nat×Nat)) (tl:List (Option Nat)) (k t:Nat) (_:vs=[.ref p,.ref r,.ref l]) (_:DoT H p r n q ts es tl k t) (_:H l=some (.lst [.ref u])) (_:H u=some (.tup (tintV k t))) (_:∀H' z,Same H H'->H' z=some (.tup (tv (tl.set k (some t))))->Q (.ref z) H')
theorem scBh:FnScope ["net","tints","steps"] ["net","tints","steps"] (defScope sBh):=⟨rfl,rfl,rfl,by decide+kernel,rfl,by decide+kernel,by decide+kernel⟩
theorem ok_bh{f:Addr}{fd:FuncData}(F:Fun K "behind" "behind" sBh f fd)(FW:FnE P w K mg base "walked" ["net","tints","steps"] 7 spWa):FnOk P w K mg base CX0 8 f fd ["net","tints","steps"] spBh:=by
 refine F.ok scBh (fun vs H Q E h=>?_) (fun cdv A outer s H vs Q E hr h=>?_)
 ·obtain⟨p,r,l,u,n,q,ts,es,tl,k,t,rfl,_⟩:=h
  rfl
 ·obtain⟨p,r,l,u,n,qa,ts,es,tl,k,t,rfl,DT,hL,hU,q⟩:=h
  refine⟨_,pss_one (ps_ret (pe_ix ix_list (pe_op op_catLS (pe_lstS (pa_c (pv 1) pa_nil)) (pe_fc FW hr (pa_c (pv 0) (pa_c (pv 1) (pa_c (pv 2) pa_nil))))) (pe_un un_neg pe_int) (fun _ _=>rfl))),?_⟩
  refine⟨_,rfl,rfl,fun a H1 s1 h1=>?_⟩
  refine⟨_,rfl,_,rfl,_,rfl,p,r,l,u,n,qa,ts,es,tl,k,t,rfl,DT.same s1,s1 _ _ hL,s1 _ _ hU,fun H2 d z s2 hd hz=>?_⟩
  refine⟨a,d,_,_,rfl,rfl,s2 _ _ h1,hd,(by show 1+1<=100000;decide),fun c H3 s3 hc=>?_⟩
  exact⟨_,rfl,c,_,_,_,rfl,rfl,SqL.of hc,rfl,q H3 z (Same.trans s1 (Same.trans s2 s3)) (s3 _ _ hz)⟩
end
theorem free_two{es:List (Nat×Nat)}{tl:List (Option Nat)}{k m:Nat}(hk:k<es.length)(hb:tl[k]?=some none)(hm:dg es es.length (es.getD k (0,0)).1+dg es es.length (es.getD k (0,0)).2<=m+1):
  ∃t,t<m/\¬Used es tl es.length (es.getD k (0,0)).1 t/\¬Used es tl es.length (es.getD k (0,0)).2 t:=by
 apply Classical.byContradiction
 intro hn
 have hall:∀t,t<m->Used es tl es.length (es.getD k (0,0)).1 t\/Used es tl es.length (es.getD k (0,0)).2 t:=fun t ht=>by
  apply Classical.byContradiction
  intro z
  exact hn ⟨t,ht,fun z1=>z (.inl z1),fun z2=>z (.inr z2)⟩
 generalize hA:(es.getD k (0,0)).1=A at*
 generalize hB:(es.getD k (0,0)).2=B at*
 have atA:atB (es.getD k (0,0)) A=true:=atB_iff.mpr (.inl hA.symm)
 have atB':atB (es.getD k (0,0)) B=true:=atB_iff.mpr (.inr hB.symm)
 have key:=sub_len (a:=List.range m) (b:=((List.range es.length).filter fun j=>j !=k&&(atB (es.getD j (0,0)) A||atB (es.getD j (0,0)) B)).map fun j=>(tl.getD j none).getD 0) List.nodup_range fun t ht=>by
  have htm:=List.mem_range.mp ht
  obtain⟨j,hj,h,hat⟩:∃j,j<es.length/\tl[j]?=some (some t)/\(At (es.getD j (0,0)) A\/At (es.getD j (0,0)) B):=by
   rcases hall t htm with⟨j,a,b,c⟩|⟨j,a,b,c⟩
   ·exact⟨j,a,b,.inl c⟩
   ·exact⟨j,a,b,.inr c⟩
  have hne:j≠k:=fun z=>by subst z;rw[hb]at h;cases h
  refine List.mem_map.mpr ⟨j,List.mem_filter.mpr ⟨List.mem_range.mpr hj,?_⟩,?_⟩
  ·rw[Bool.and_eq_true,Bool.or_eq_true]
   exact⟨by simp[hne],hat.imp atB_iff.mpr atB_iff.mpr⟩
  ·rw[List.getD_eq_getElem?_getD,h]
   rfl
 rw[List.length_range,List.length_map]at key
 have c1:=filt_or (fun j=>j !=k) (fun j=>atB (es.getD j (0,0)) A) (fun j=>atB (es.getD j (0,0)) B) (List.range es.length)
 have c2:=filt_ne k (fun j=>atB (es.getD j (0,0)) A) atA (List.range es.length) (List.mem_range.mpr hk)
 have c3:=filt_ne k (fun j=>atB (es.getD j (0,0)) B) atB' (List.range es.length) (List.mem_range.mpr hk)
 unfold dg at hm
 omega
structure WayF where
 ok:List (Nat×Nat)->Prop
 nd:Int->Int
 nn:∀M,0<=M->0<=nd M/\nd M<=2*M+1
 up:∀M M',M<=M'->nd M<=nd M'
structure RmW(W:WayF)(H:Hp)(p r:Addr)(n:Nat)(q:Addr)(ts:List V)(es:List (Nat×Nat))(tl:List (Option Nat))(k m:Nat):Prop where
 N:NetZ H p n q ts es
 hR:H r=some (.tup (tv tl))
 len:tl.length=es.length
 hk:k<es.length
 hb:tl[k]?=some none
 hm:m<=1000
 ho:W.ok es
 hM:∀M,IsMax (dl es n) M->W.nd M<=(m:Int)
 room:0<(both es tl (es.getD k (0,0)).1 (es.getD k (0,0)).2 m).length
def spNdW(W:WayF):Sp:=fun vs H Q _=>∃(p:Addr)(m:Int),vs=[.ref p,.int m]/\0<=m/\Q (.int (W.nd m)) H
def spAkW(W:WayF):Sp:=fun vs H Q _=>∃(s p:Addr)(n:Nat)(q:Addr)(ts:List V)(es:List (Nat×Nat)),vs=[.ref s,.ref p]/\NetZ H p n q ts es/\W.ok es/\∀H',Same H H'->Q .non H'
def spPutW(W:WayF)(C:Addr):Sp:=fun vs H Q _=>∃(s p r:Addr)(n:Nat)(q:Addr)(ts:List V)(es:List (Nat×Nat))(tl:List (Option Nat))(k m:Nat)(dx:Addr),vs=[.ref s,.ref p,.ref r,.int (k:Int),.int (m:Int)]/\H s=some (.ins C dx [])/\RmW W H p r n q ts es tl k m/\
 ∀H' l u t,Same H H'->H' l=some (.lst [.ref u])->H' u=some (.tup (tintV k t))->t∈both es tl (es.getD k (0,0)).1 (es.getD k (0,0)).2 m->Q (.ref l) H'
theorem head_mem{l:List Nat}(h:0<l.length):l.getD 0 0∈l:=by
 cases l with
 |nil=>cases h
 |cons x l=>exact .head _
theorem head_get{l:List Nat}(h:0<l.length):l[0]?=some (l.getD 0 0):=by
 cases l with
 |nil=>cases h
 |cons x l=>rfl
section
variable{P:Program}{w:World}{K:PySem.W.Frag}{mg:Str->Option Value}{base:Heap}{cM:Addr}{W:WayF}
theorem RmW.same{H H':Hp}{p r:Addr}{n:Nat}{q:Addr}{ts:List V}{es:List (Nat×Nat)}{tl:List (Option Nat)}{k m:Nat}(h:RmW W H p r n q ts es tl k m)(s:Same H H'):RmW W H' p r n q ts es tl k m:=
 ⟨h.N.same s,s _ _ h.hR,h.len,h.hk,h.hb,h.hm,h.ho,h.hM,h.room⟩
abbrev sPut:Stmt:=inClass (top 43) 2
abbrev nPut:List Str:=["self","net","tints","tie","many","need","ends","shared"]
theorem scPut:FnScope nPut ["self","net","tints","tie","many"] (defScope sPut):=⟨rfl,rfl,rfl,by decide+kernel,rfl,by decide+kernel,by decide+kernel⟩
theorem ok_putW{f:Addr}{fd:FuncData}(F:Fun K "put" "Way.put" sPut f fd)(T:Bi mg)(FBl:FnE P w K mg base "is_below" ["thing","bound"] 6 spBel)(FMo:FnE P w K mg base "most_of" ["net"] 6 spMo)(FFb:FnE P w K mg base "free_at_both" ["net","tints","one","other","many"] 6 spFb)
  (MN:MeE P w K mg base cM "needed" ["self","most"] 6 (spNdW W))(MA:MeE P w K mg base cM "asked" ["self","net"] 6 (spAkW W)):FnOk P w K mg base CX0 7 f fd ["self","net","tints","tie","many"] (spPutW W cM):=by
 refine F.ok scPut (fun vs H Q E h=>?_) (fun cdv A outer s H vs Q E hr h=>?_)
 ·obtain⟨s,p,r,n,q,ts,es,tl,k,m,dx,rfl,_⟩:=h
  rfl
 ·obtain⟨sf,p,r,n,qa,ts,es,tl,k,m,dx,rfl,hs,I,q⟩:=h
  refine⟨_,pss_cons (ps_if (PW.pt (pw_or (pt_not (pt_val (pe_fc FBl hr (pa_c (pv 3) (pa_c (pe_callB call_len_seq rfl T.len bLen (pa_c (pe_ix ix_tup (pv 1) pe_int (fun _ _=>rfl)) pa_nil)) pa_nil))))) (pw_or1 (pt_cmpR op_notN (pe_ix ix_tup (pv 2) (pv 3) (fun _ _=>rfl)) pe_non (nomark _))))) pss_never pss_nil)
   (pss_cons (ps_expr (pe_me MA hr (pv 0) (pa_c (pv 1) pa_nil)))
   (pss_cons (ps_set (i:=5) scPut.nd rfl (Or.inl rfl) (pe_me MN hr (pv 0) (pa_c (pe_fc FMo hr (pa_c (pv 1) pa_nil)) pa_nil)))
   (pss_cons (ps_if (pt_cmpR op_lt (pv 4) (pv 5) (nomark _)) pss_never pss_nil)
   (pss_cons (ps_set (i:=6) scPut.nd rfl (Or.inl rfl) (pe_ix ix_tup (pe_ix ix_tup (pv 1) pe_int (fun _ _=>rfl)) (pv 3) (fun _ _=>rfl)))
   (pss_cons (ps_set (i:=7) scPut.nd rfl (Or.inl rfl) (pe_fc FFb hr (pa_c (pv 1) (pa_c (pv 2) (pa_c (pe_ix ix_tup (pv 6) pe_int (fun _ _=>rfl)) (pa_c (pe_ix ix_tup (pv 6) pe_int (fun _ _=>rfl)) (pa_c (pv 4) pa_nil)))))))
   (pss_cons (ps_if (pt_truth (pv 7) (fun _=>rfl)) (pss_one (ps_ret (pe_lst (pa_c (pe_tup (pa_c pe_str (pa_c (pv 3) (pa_c (pe_ix ix_tup (pv 7) pe_int (fun _ _=>rfl)) pa_nil)))) pa_nil)))) pss_nil)
   pss_never)))))),?_⟩
  have N:=I.N
  have hlen:=N.len
  have hk:=I.hk
  have h0:=I.room
  refine⟨_,rfl,_,rfl,p,_,_,_,rfl,rfl,SqT.of N.e1,rfl,qa,_,rfl,.inr (SqT.of N.e2),(k:Int),_,rfl,by omega,by omega,_,rfl,?_⟩
  refine iteF ⟨_,rfl,_,rfl,r,_,_,_,rfl,rfl,SqT.of I.hR,atI_nat (tv_get I.hb),rfl,_,rfl,iteF ?_⟩
  refine⟨_,rfl,sf,dx,_,rfl,hs,rfl,_,rfl,sf,p,n,qa,ts,es,rfl,N,I.ho,fun H0 s0=>?_⟩
  have I0:=I.same s0
  refine⟨_,rfl,sf,dx,_,rfl,s0 _ _ hs,rfl,_,rfl,p,n,qa,ts,es,rfl,I0.N,fun H1 M s1' hMx=>⟨sf,M,rfl,(most_nn hMx).1,?_⟩⟩
  have s1:=Same.trans s0 s1'
  have hg:=I.hM M hMx
  have I1:=I.same s1
  refine⟨_,rfl,_,rfl,_,_,rfl,rfl,_,rfl,?_⟩
  refine ite2 (fun z=>absurd (of_decide_eq_true z) (by omega)) (fun _=>?_)
  obtain⟨tk,htk,hta⟩:=I1.N.at' hk
  refine⟨_,rfl,p,_,_,_,rfl,rfl,SqT.of I1.N.e1,rfl,_,rfl,qa,_,_,_,rfl,rfl,SqT.of I1.N.e2,atI_nat htk,?_⟩
  refine⟨_,rfl,_,rfl,_,rfl,tk,_,_,_,rfl,rfl,SqT.of hta,rfl,_,rfl,tk,_,_,_,rfl,rfl,SqT.of hta,rfl,_,rfl,p,r,n,qa,ts,es,tl,(es.getD k (0,0)).1,(es.getD k (0,0)).2,m,rfl,I1.N,I1.hR,I.len,I.hm,fun H2 t s2 ht=>?_⟩
  have s12:=Same.trans s1 s2
  refine⟨_,rfl,true,.inr (.inl ⟨_,SqT.of ht,?_⟩),iteT ?_⟩
  ·cases hz:both es tl (es.getD k (0,0)).1 (es.getD k (0,0)).2 m with
   |nil=>rw[hz]at h0;cases h0
   |cons _ _=>rfl
  ·refine⟨_,rfl,_,rfl,t,_,_,_,rfl,rfl,SqT.of ht,atI_nat (j:=0) (nl_get (head_get h0)),(by show 3<=sizeLine;decide),fun u hu=>⟨(by show 1<=sizeLine;decide),fun l hl=>?_⟩⟩
   have s3:=Same.trans s12 (same_new (o:= .tup [.str "tint",.int (k:Int),.int (((both es tl (es.getD k (0,0)).1 (es.getD k (0,0)).2 m).getD 0 0:Nat):Int)]) hu)
   exact q _ l u _ (Same.trans s3 (same_new hl)) upd_same (same_new hl _ _ upd_same) (head_mem h0)
abbrev sAkW:Stmt:=inClass (top 43) 1
abbrev sAkT:Stmt:=inClass (top 72) 1
abbrev sAkP:Stmt:=inClass (top 65) 1
theorem scAkW:FnScope ["self","net"] ["self","net"] (defScope sAkW):=⟨rfl,rfl,rfl,by decide+kernel,rfl,by decide+kernel,by decide+kernel⟩
theorem scAkT:FnScope ["self","net","told"] ["self","net"] (defScope sAkT):=⟨rfl,rfl,rfl,by decide+kernel,rfl,by decide+kernel,by decide+kernel⟩
theorem scAkP:FnScope ["self","net","pair"] ["self","net"] (defScope sAkP):=⟨rfl,rfl,rfl,by decide+kernel,rfl,by decide+kernel,by decide+kernel⟩
theorem ok_akW{f:Addr}{fd:FuncData}(F:Fun K "asked" "Way.asked" sAkW f fd):FnOk P w K mg base CX0 1 f fd ["self","net"] (spAkW W):=by
 refine F.ok scAkW (fun vs H Q E h=>?_) (fun cdv A outer s H vs Q E hr h=>?_)
 ·obtain⟨s,p,n,q,ts,es,rfl,_⟩:=h
  rfl
 ·obtain⟨s,p,n,q,ts,es,rfl,N,_,h⟩:=h
  exact⟨_,pss_one (ps_ret pe_non),h H (Same.refl H)⟩
theorem ok_akT{f:Addr}{fd:FuncData}(F:Fun K "asked" "TwoSided.asked" sAkT f fd)(hW:∀es,W.ok es->Two es) (FS:FnE P w K mg base "sides" ["net"] 2 Sd.spSd):FnOk P w K mg base CX0 3 f fd ["self","net"] (spAkW W):=by
 refine F.ok (k:=2) scAkT (fun vs H Q E h=>?_) (fun cdv A outer s H vs Q E hr h=>?_)
 ·obtain⟨s,p,n,q,ts,es,rfl,_⟩:=h
  rfl
 ·obtain⟨sf,p,n,qa,ts,es,rfl,N,ho,q⟩:=h
  have hr2:Room 2 _:=hr.mono (by simp)
  refine⟨_,pss_cons (ps_set (i:=2) scAkT.nd rfl (Or.inl rfl) (pe_fc FS hr2 (pa_c (pv 1) pa_nil))) (pss_cons (ps_if (pt_cmpR op_eq (pe_ix ix_tup (pv 2) pe_int (fun _ _=>rfl)) pe_str (nomark _)) pss_never pss_nil) (pss_one (ps_ret pe_non))),?_⟩
  refine⟨_,rfl,p,n,qa,ts,es,rfl,⟨N.e1,N.e2,N.len,N.tie,N.l200,N.n60,N.ok⟩,fun H' t r row' s' ht hr' _ _=>?_,fun H' t r above a b m s' ht hr' _ _ _ hx=>?_⟩
  ·refine⟨_,rfl,t,_,_,_,rfl,rfl,SqT.of ht,rfl,rfl,_,rfl,?_⟩
   exact ite2 (fun z=>absurd (of_decide_eq_true z) sides_ring) (fun _=>q H' s')
  ·obtain⟨col,hc⟩:=hW es ho
   exact(odd_ring (col:=col) fun k hk=>adj_col hc (hx.2.2.2 k hk)).elim
theorem ok_akP{f:Addr}{fd:FuncData}(F:Fun K "asked" "Plain.asked" sAkP f fd)(hW:∀es,W.ok es->¬Twin es) (FL:FnE P w K mg base "like_pair" ["net"] 1 spLp):FnOk P w K mg base CX0 3 f fd ["self","net"] (spAkW W):=by
 refine F.ok (k:=2) scAkP (fun vs H Q E h=>?_) (fun cdv A outer s H vs Q E hr h=>?_)
 ·obtain⟨s,p,n,q,ts,es,rfl,_⟩:=h
  rfl
 ·obtain⟨sf,p,n,qa,ts,es,rfl,N,ho,q⟩:=h
  have hr1:Room 1 _:=hr.mono (by simp)
  refine⟨_,pss_cons (ps_set (i:=2) scAkP.nd rfl (Or.inl rfl) (pe_fc FL hr1 (pa_c (pv 1) pa_nil))) (pss_cons (ps_if (pt_cmpR op_notN (pv 2) pe_non (nomark _)) pss_never pss_nil) (pss_one (ps_ret pe_non))),?_⟩
  refine⟨_,rfl,p,n,qa,ts,es,rfl,N,fun _ H1 s1=>⟨_,rfl,rfl,_,rfl,iteF (q H1 s1)⟩,fun H1 v _ hv=>?_⟩
  obtain⟨_,i,j,_,_,a,b,c⟩:=hv
  exact absurd ⟨i,j,a,b,c⟩ (hW es ho)
end
def W0:WayF:=⟨fun _=>True,g0,fun M h=>by unfold g0;split<;>omega,fun M M' h=>by unfold g0;split<;>split<;>omega⟩
def W1:WayF:=⟨Two,g1,fun M h=>by unfold g1;omega,fun M M' h=>by unfold g1;omega⟩
def W2:WayF:=⟨fun es=>¬Twin es,g2,fun M h=>by unfold g2;split<;>omega,fun M M' h=>by unfold g2;split<;>split<;>omega⟩
def W3:WayF:=⟨fun _=>True,g3,fun M h=>by unfold g3;omega,fun M M' h=>by unfold g3;omega⟩
end My
namespace L2
open PySem PySem.Spec PyProof.Rows
theorem pe_nev{X:Cx}{e:Expr}:PE X e (fun _ _ _=>False):=fun _ _ _ _ _ _ h=>h.elim
structure FunD(K:PySem.W.Frag)(x qual:Str)(st:Stmt)(f:Addr)(fd:FuncData):Prop where
 ex:∃(oc:Value)(od:Option Addr)(dV kV doc pm:Value)(an:Option Addr)(cdv ct:Value)(osl:Array (Option Value)),
  fd=PySem.W.fnOf x qual (defArgs st) (defBody st) (defScope st) dV kV doc pm an cdv ct/\K.lookup f=some ⟨oc,od,.func fd,osl⟩/\PySem.W.codeIn K cdv qual=true
section
variable{P:Program}{w:World}{K:PySem.W.Frag}{mg:Str->Option Value}{base:Heap}
theorem FunD.ok{x qual:Str}{st:Stmt}{f:Addr}{fd:FuncData}{N ps:List Str}{k:Nat}{sp:Sp}(F:FunD K x qual st f fd)(S:FnScope N ps (defScope st))(len:∀vs H Q E,sp vs H Q E->vs.length=ps.length)
  (hbody:∀(cdv:Value)(A:Around)(outer:List Env)(s:Shared)(H:Hp)(vs:List V)(Q:VK)(E:XK),Room k (A.deeper (envOfC qual (defScope st) s.heap.objs.size f cdv))->sp vs H Q E->
   ∃t,PSs (cxOf CX0 P w K mg base N qual (defScope st) f cdv A outer s H E).nox (defBody st) t/\t {nx:=fun _ H'=>Q .non H',rt:=Q} (start N vs) H):FnOk P w K mg base CX0 (k+1) f fd ps sp:=by
 obtain⟨oc,od,dV,kV,doc,pm,an,cdv,ct,osl,rfl,lk,hcd⟩:=F.ex
 refine fn_of lk hcd S len fun A outer s H vs Q E hr hsp=>?_
 obtain⟨t,h,q⟩:=hbody cdv A outer s H vs Q E hr hsp
 exact⟨t,h.nox,q⟩
end
theorem few(f:Str)(v:V):∀{fs:List (Str×V)}{n:Nat},fs.length<=n->(putF f v fs).length<=n+1
 |[],n,_=>by show 1<=n+1;simp
 |(g,x)::r,0,h=>by cases h
 |(g,x)::r,n+1,h=>by
  have:=few f v (fs:=r) (n:=n) (by simpa using h)
  unfold putF
  split
  ·simpa using Nat.le_succ_of_le h
  ·simpa using this
theorem pe_fldK{X:Cx}{K:PySem.W.Frag}{e:Expr}{f:Str}{pos:Pos}{ta:TE}(hK:X.K=K)(he:PE X e ta)(hb:attributeBase e f X.env (eval e X.env)=eval e X.env):PE X (.Attribute e f pos) (tFld K ta f):=by
 subst hK
 exact pe_fld he hb
theorem mono_fld{K:PySem.W.Frag}{f:Str}{ta:TE}(h:MonoE ta):MonoE (tFld K ta f):=fun σ H Q Q' k q=>h σ H _ _ (fun x H1⟨a,C,dx,fs,v,e1,e2,e3,e4,e5,q⟩=>⟨a,C,dx,fs,v,e1,e2,e3,e4,e5,k _ _ q⟩) q
end L2
namespace My
open PySem L2 Tx
structure Rw where
 no:Nat
 e:Nat×Nat
 hr:Nat
abbrev Rws':=List (Addr×Rw)
def rT(rr:Rws'):List (Key×V):=rr.map fun x=>(Sum.inl (x.2.no:Int),V.ref x.1)
def rG(rr:Rws'):List (Key×V):=rr.map fun x=>(Sum.inl (x.2.no:Int),V.int (x.2.hr:Int))
def esR(rr:Rws'):List (Nat×Nat):=rr.map fun x=>x.2.e
def tlR(rr:Rws'):List (Option Nat):=rr.map fun x=>some x.2.hr
abbrev flds(wy dp dt dg:Addr)(md cr:Nat):List (Str×V):=[("way",.ref wy),("places",.ref dp),("ties",.ref dt),("given",.ref dg),("made",.int (md:Int)),("crowd",.int (cr:Int))]
structure TabA(cT C:Addr)(H:Hp)(t:Addr)(u:List Str)(rr:Rws')(md cr:Nat)(dx wy dw dp dt dg:Addr):Prop where
 t:H t=some (.ins cT dx (flds wy dp dt dg md cr))
 w:H wy=some (.ins C dw [])
 p:H dp=some (.dK (plcF 0 u))
 d:H dt=some (.dK (rT rr))
 g:H dg=some (.dK (rG rr))
 tg:dt≠dg
 pt:dp≠dt
 pg:dp≠dg
 e:∀x∈rr,H x.1=some (.tup [.int (x.2.e.1:Int),.int (x.2.e.2:Int)])
def TabZ(cT C:Addr)(H:Hp)(t:Addr)(u:List Str)(rr:Rws')(md cr:Nat):Prop:=∃dx wy dw dp dt dg,TabA cT C H t u rr md cr dx wy dw dp dt dg
theorem TabA.same{cT C:Addr}{H H':Hp}{t:Addr}{u:List Str}{rr:Rws'}{md cr:Nat}{dx wy dw dp dt dg:Addr}(h:TabA cT C H t u rr md cr dx wy dw dp dt dg)(s:Same H H'):TabA cT C H' t u rr md cr dx wy dw dp dt dg:=
 ⟨s _ _ h.t,s _ _ h.w,s _ _ h.p,s _ _ h.d,s _ _ h.g,h.tg,h.pt,h.pg,fun x hx=>s _ _ (h.e x hx)⟩
theorem TabZ.same{cT C:Addr}{H H':Hp}{t:Addr}{u:List Str}{rr:Rws'}{md cr:Nat}(h:TabZ cT C H t u rr md cr)(s:Same H H'):TabZ cT C H' t u rr md cr:=
 let⟨dx,wy,dw,dp,dt,dg,a⟩:=h;⟨dx,wy,dw,dp,dt,dg,a.same s⟩
def Kp:HO->Prop
 | .dK _=>False
 | .ins _ _ (_::_)=>False
 | .own _=>False
 |_=>True
def Keeps(H H':Hp):Prop:=∀b o,H b=some o->Kp o->H' b=some o
theorem Same.keeps{H H':Hp}(s:Same H H'):Keeps H H':=fun b o e _=>s b o e
theorem Keeps.trans{H H1 H2:Hp}(a:Keeps H H1)(b:Keeps H1 H2):Keeps H H2:=fun c o e k=>b c o (a c o e k) k
theorem Keeps.wr{H H':Hp}(k:Keeps H H'){d:Addr}{o:HO}(h:∀u,H d=some u->¬Kp u):Keeps H (upd H' d o):=fun b u e ku=>by
 rw[upd_ne fun z=>h u (by rw[<-z];exact e) ku]
 exact k b u e ku
structure TbOk(u:List Str)(rr:Rws')(md cr:Nat):Prop where
 nd:(rr.map fun x=>x.2.no).Nodup
 lt:∀x∈rr,x.2.no<md
 en:∀x∈rr,x.2.e.1<u.length/\x.2.e.2<u.length/\x.2.e.1≠x.2.e.2
 u60:u.length<=60
 r200:rr.length<=200
 und:u.Nodup
 unm:∀z∈u,nameB z=true
 cl:rr.Pairwise fun x y=>x.2.hr=y.2.hr->∀p,At y.2.e p->¬At x.2.e p
 c200:cr<=200
 hr:∀x∈rr,x.2.hr<1000
theorem esR_get(rr:Rws')(i:Nat):(esR rr).getD i (0,0)=(rr[i]?.map fun x=>x.2.e).getD (0,0):=by unfold esR;rw[List.getD_eq_getElem?_getD,List.getElem?_map]
theorem tlR_get{rr:Rws'}{i t:Nat}(h:(tlR rr)[i]?=some (some t)):∃x,rr[i]?=some x/\x.2.hr=t:=by
 unfold tlR at h
 rw[List.getElem?_map]at h
 cases e:rr[i]? with
 |none=>rw[e]at h;cases h
 |some x=>rw[e]at h;cases h;exact⟨x,rfl,rfl⟩
theorem cleanR{rr:Rws'}(h:rr.Pairwise fun x y=>x.2.hr=y.2.hr->∀p,At y.2.e p->¬At x.2.e p) (o:Option Nat) (e:Nat×Nat) (ho:o=none):CleanTo (esR rr++[e]) (tlR rr++[o]) (esR rr++[e]).length:=by
 subst ho
 have hl:(tlR rr).length=rr.length:=by unfold tlR;rw[List.length_map]
 have he:(esR rr).length=rr.length:=by unfold esR;rw[List.length_map]
 intro i j t hj hi h1 h2 p hp hq
 rw[List.length_append,he,List.length_singleton]at hi
 have hi':i<rr.length:=by
  rcases Nat.lt_or_ge i rr.length with z|z
  ·exact z
  ·rw[List.getElem?_append_right (by omega),show i-(tlR rr).length=0 by omega]at h1
   cases h1
 rw[List.getElem?_append_left (by omega)]at h1 h2
 rw[List.getD_eq_getElem?_getD,List.getElem?_append_left (by omega),<-List.getD_eq_getElem?_getD,esR_get]at hp hq
 obtain⟨x,hx,ex⟩:=tlR_get h1
 obtain⟨y,hy,ey⟩:=tlR_get h2
 rw[hx]at hp
 rw[hy]at hq
 obtain⟨i1,i2⟩:=List.getElem?_eq_some_iff.mp hx
 obtain⟨j1,j2⟩:=List.getElem?_eq_some_iff.mp hy
 have:=List.pairwise_iff_getElem.mp h j i j1 i1 hj
 rw[i2,j2]at this
 exact this (by omega) p hp hq
theorem kvR_val{f:Addr×Rw->V}{k:Nat}:∀{rr:Rws'},(∀x∈rr,x.2.no≠k)->valV (rr.map fun x=>((Sum.inl (x.2.no:Int):Key),f x)) (Sum.inl (k:Int))=none
 |[],_=>rfl
 |x::rr,h=>by
  rw[List.map_cons,valV_neg (fun z=>h x (.head _) (by have:=Sum.inl.inj z;omega))]
  exact kvR_val fun y hy=>h y (.tail _ hy)
theorem kvR_in{f:Addr×Rw->V}{k:Nat}:∀{rr:Rws'},(∃x∈rr,x.2.no=k)->(∃x∈rr,x.2.no=k/\valV (rr.map fun x=>((Sum.inl (x.2.no:Int):Key),f x)) (Sum.inl (k:Int))=some (f x))
 |[],⟨_,h,_⟩=>by cases h
 |x::rr,⟨y,hy,e⟩=>by
  by_cases z:x.2.no=k
  ·exact⟨x,.head _,z,by rw[List.map_cons,valV_pos (by rw[z])]⟩
  ·rw[List.map_cons,valV_neg (fun q=>z (by have:=Sum.inl.inj q;omega))]
   rcases List.mem_cons.mp hy with rfl|hy
   ·exact absurd e z
   ·obtain⟨w,h1,h2,h3⟩:=kvR_in ⟨y,hy,e⟩
    exact⟨w,.tail _ h1,h2,h3⟩
theorem kvR_drop{f:Addr×Rw->V}{k:Nat}(rr:Rws'):dropK (rr.map fun x=>((Sum.inl (x.2.no:Int):Key),f x)) (Sum.inl (k:Int))=(rr.filter fun x=>x.2.no !=k).map fun x=>((Sum.inl (x.2.no:Int):Key),f x):=by
 unfold dropK
 rw[List.filter_map]
 congr 1
 refine List.filter_congr fun x _=>?_
 simp only[Function.comp]
 by_cases z:x.2.no=k
 ·subst z;simp
 ·have:¬((Sum.inl (x.2.no:Int):Key)=Sum.inl (k:Int)):=fun q=>z (by have:=Sum.inl.inj q;omega)
  simp[z,this]
theorem kvR_put{f:Addr×Rw->V}{y:Addr×Rw}{rr:Rws'}(h:∀x∈rr,x.2.no<y.2.no):putK (rr.map fun x=>((Sum.inl (x.2.no:Int):Key),f x)) (Sum.inl (y.2.no:Int)) (f y)=(rr++[y]).map fun x=>((Sum.inl (x.2.no:Int):Key),f x):=by
 rw[putK_new _ (kvR_val fun x hx z=>by have:=h x hx;omega),List.map_append]
 rfl
structure TcC(K:PySem.W.Frag)(C:Addr):Prop where
 cl:Cls K C
 n1:NoAttr K C "way"
 n2:NoAttr K C "places"
 n3:NoAttr K C "ties"
 n4:NoAttr K C "given"
 n5:NoAttr K C "made"
 n6:NoAttr K C "crowd"
section
variable{P:Program}{w:World}{K:PySem.W.Frag}{mg:Str->Option Value}{base:Heap}{cT C:Addr}
abbrev sPw:Stmt:=top 54
abbrev nPw:List Str:=["places","names","told","name"]
inductive spPw(vs:List V)(H:Hp)(Q:VK)(_z3:XK):Prop
 |mk (d l:Addr) (u ns:List Str) (_:vs=[.ref d,.ref l]) (_:H d=some (.dK (plcF 0 u))) (_:H l=some (.tup (ns.map V.str))) (_:u.length+ns.length<=1000) (_:∀H' p,Same H H'->H p=none->H' p=some (.dK (plcF 0 (addNs u ns)))->Q (.ref p) H')
theorem scPw:FnScope nPw ["places","names"] (defScope sPw):=⟨rfl,rfl,rfl,by decide+kernel,rfl,by decide+kernel,by decide+kernel⟩
theorem ok_pw{f:Addr}{fd:FuncData}(F:Fun K "places_with" "places_with" sPw f fd)(T:Bi mg):FnOk P w K mg base CX0 1 f fd ["places","names"] spPw:=by
 refine F.ok scPw (fun vs H Q E h=>?_) (fun cdv A outer s H vs Q E hr h=>?_)
 ·obtain⟨d,l,u,ns,rfl,_⟩:=h
  rfl
 ·obtain⟨d,l,u,ns,rfl,hd,hl,hn,q⟩:=h
  refine⟨_,pss_cons (ps_set (i:=2) scPw.nd rfl (Or.inl rfl) (pe_callTy call_dictK rfl T.dict bDict (pa_c (pv 0) pa_nil)))
   (pss_cons (ps_for PassesOwn.never rfl (pi_tup (pv 1)) (pg_name (i:=3) scPw.nd rfl (Or.inl rfl))
    (pss_one (ps_expr (pe_dsetd (pv 2) (pv 3) (pe_callB call_lenD rfl T.len bLen (pa_c (pv 2) pa_nil)) ⟨rfl,rfl,rfl,rfl⟩))))
   (pss_one (ps_ret (pv 2)))),?_⟩
  refine⟨_,rfl,d,_,rfl,hd,fun p hp=>?_⟩
  have hl1:=same_new (o:= .dK (plcF 0 u)) hp _ _ hl
  refine⟨_,rfl,l,rfl,⟨_,SqT.of hl1⟩,for_tup (K:=K) (a:=l) (xs:=ns.map V.str) (fun i σ G=>(∃v3,σ=[some (.ref d),some (.ref l),some (.ref p),v3])/\Same H G/\G p=some (.dK (plcF 0 (addNs u (ns.take i)))))
   ⟨⟨_,rfl⟩,same_new hp,upd_same⟩ (fun i σ G _⟨_,sG,_⟩=>SqT.of (sG _ _ hl)) (fun i x σ G hx xq1=>?_) (fun σ G xq1=>?_)⟩
  ·obtain⟨⟨v3,e⟩,sG,hP⟩:=xq1
   subst e
   rw[List.getElem?_map]at hx
   cases hq:ns[i]? with
   |none=>rw[hq]at hx;cases hx
   |some z=>
    rw[hq]at hx
    cases hx
    have hi:=(List.getElem?_eq_some_iff.mp hq).1
    have hlen:=len_addNs (ws:=ns.take i) (acc:=u)
    rw[List.length_take]at hlen
    have e1:addNs u (ns.take (i+1))=addN (addNs u (ns.take i)) z:=by
     rw[List.take_succ,hq,addNs_app]
     rfl
    refine⟨_,rfl,p,rfl,.inl ⟨_,.inl hP⟩,_,rfl,_,rfl,p,_,rfl,hP,_,.inr z,hP,rfl,by rw[plc_len];omega,fun v hv=>?_,fun hv=>?_⟩
    ·refine⟨⟨_,rfl⟩,sG,?_⟩
     rw[e1,hP]
     unfold addN
     split
     ·rfl
     ·rename_i hz;rw[plc_out hz]at hv;cases hv
    ·refine⟨⟨_,rfl⟩,sG.wr hp,?_⟩
     have hz:z ∉ addNs u (ns.take i):=fun m=>by rw[plc_in m]at hv;cases hv
     rw[upd_same,e1,plc_len,plc_put hz]
     unfold addN
     rw[if_neg hz]
  ·obtain⟨⟨v3,e⟩,sG,hP⟩:=xq1
   subst e
   refine⟨_,rfl,q G p sG hp ?_⟩
   rw[hP,List.length_map,List.take_length]
abbrev sWm:Stmt:=top 48
inductive spWm(vs:List V)(H:Hp)(Q:VK)(_z3:XK):Prop
 |mk (s:Addr) (_:vs=[.ref s]) (_:Q (.ref s) H)
theorem scWm:FnScope ["way"] ["way"] (defScope sWm):=⟨rfl,rfl,rfl,by decide+kernel,rfl,by decide+kernel,by decide+kernel⟩
theorem ok_wm{f:Addr}{fd:FuncData}(F:Fun K "way_or_manifold" "way_or_manifold" sWm f fd):FnOk P w K mg base CX0 1 f fd ["way"] spWm:=by
 refine F.ok scWm (fun vs H Q E h=>?_) (fun cdv A outer s H vs Q E hr h=>?_)
 ·obtain⟨s,rfl,_⟩:=h
  rfl
 ·obtain⟨sw,rfl,q⟩:=h
  refine⟨_,pss_one (ps_ret (pe_ifExp (pt_cmpR op_isN (pv 0) pe_non (nomark _)) pe_nev (pv 0))),?_⟩
  refine⟨_,rfl,rfl,_,rfl,?_⟩
  refine ite2 (fun z=>absurd (of_decide_eq_true z) (fun e=>nomatch e)) (fun _=>?_)
  exact⟨_,rfl,q⟩
abbrev sIn:Stmt:=inClass (top 58) 0
inductive spIn(cT C:Addr)(vs:List V)(H:Hp)(Q:VK)(_z3:XK):Prop
 |mk (sf wy dx dw:Addr) (_:vs=[.ref sf,.ref wy]) (_:H sf=some (.ins cT dx [])) (_:H wy=some (.ins C dw [])) (_:sf≠wy) (_:∀H',(∀b o,b≠sf->H b=some o->H' b=some o)->TabZ cT C H' sf [] [] 0 0->Q .non H')
theorem scIn:FnScope ["self","way"] ["self","way"] (defScope sIn):=⟨rfl,rfl,rfl,by decide+kernel,rfl,by decide+kernel,by decide+kernel⟩
theorem ok_in{f:Addr}{fd:FuncData}(F:FunD K "__init__" "Table.__init__" sIn f fd)(S:TcC K cT)(FW:FnE P w K mg base "way_or_manifold" ["way"] 1 spWm):FnOk P w K mg base CX0 2 f fd ["self","way"] (spIn cT C):=by
 refine F.ok scIn (fun vs H Q E h=>?_) (fun cdv A outer s H vs Q E hr h=>?_)
 ·obtain⟨sf,wy,dx,dw,rfl,_⟩:=h
  rfl
 ·obtain⟨sf,wy,dx,dw,rfl,hs,hw,ne,q⟩:=h
  refine⟨_,pss_cons (ps_fld (pv 0) (pe_fc FW hr (pa_c (pv 1) pa_nil)) rfl)
   (pss_cons (ps_fld (pv 0) pe_dnewK rfl)
   (pss_cons (ps_fld (pv 0) pe_dnewK rfl)
   (pss_cons (ps_fld (pv 0) pe_dnewK rfl)
   (pss_cons (ps_fld (pv 0) pe_int rfl)
   (pss_one (ps_fld (pv 0) pe_int rfl)))))),?_⟩
  refine⟨_,rfl,wy,rfl,_,rfl,sf,cT,dx,_,rfl,hs,S.cl,S.n1,(by decide),?_⟩
  have k1:∀b o,b≠sf->H b=some o->(upd H sf (.ins cT dx (putF "way" (.ref wy) []))) b=some o:=fun b o n e=>by rw[upd_ne n];exact e
  have g1:(upd H sf (.ins cT dx (putF "way" (.ref wy) []))) sf=some (.ins cT dx (putF "way" (.ref wy) [])):=upd_same
  generalize upd H sf (.ins cT dx (putF "way" (.ref wy) []))=H1 at k1 g1
  refine fun dp hdp=>⟨_,rfl,sf,cT,dx,_,rfl,same_new hdp _ _ g1,S.cl,S.n2,(Nat.lt_of_le_of_lt (few _ _ (Nat.le_refl 0)) (by decide)),?_⟩
  have np:dp≠sf:=fun z=>by rw[z,g1]at hdp;cases hdp
  have s2:=same_new (o:= .dK []) hdp
  have p2:(upd H1 dp (.dK [])) dp=some (.dK []):=upd_same
  generalize upd H1 dp (.dK [])=H2 at s2 p2
  have k3:∀b o,b≠sf->H b=some o->(upd H2 sf (.ins cT dx (putF "places" (.ref dp) (putF "way" (.ref wy) [])))) b=some o:=fun b o n e=>by rw[upd_ne n];exact s2 _ _ (k1 b o n e)
  have g3:(upd H2 sf (.ins cT dx (putF "places" (.ref dp) (putF "way" (.ref wy) [])))) sf=some (.ins cT dx (putF "places" (.ref dp) (putF "way" (.ref wy) []))):=upd_same
  have p3:(upd H2 sf (.ins cT dx (putF "places" (.ref dp) (putF "way" (.ref wy) [])))) dp=some (.dK []):=by rw[upd_ne np];exact p2
  generalize upd H2 sf (.ins cT dx (putF "places" (.ref dp) (putF "way" (.ref wy) [])))=H3 at k3 g3 p3
  refine fun dt hdt=>⟨_,rfl,sf,cT,dx,_,rfl,same_new hdt _ _ g3,S.cl,S.n3,(Nat.lt_of_le_of_lt (few _ _ (few _ _ (Nat.le_refl 0))) (by decide)),?_⟩
  have nt:dt≠sf:=fun z=>by rw[z,g3]at hdt;cases hdt
  have npt:dp≠dt:=fun z=>by rw[<-z,p3]at hdt;cases hdt
  have s4:=same_new (o:= .dK []) hdt
  have t4:(upd H3 dt (.dK [])) dt=some (.dK []):=upd_same
  generalize upd H3 dt (.dK [])=H4 at s4 t4
  have k5:∀b o,b≠sf->H b=some o->(upd H4 sf (.ins cT dx (putF "ties" (.ref dt) (putF "places" (.ref dp) (putF "way" (.ref wy) []))))) b=some o:=fun b o n e=>by rw[upd_ne n];exact s4 _ _ (k3 b o n e)
  have g5:(upd H4 sf (.ins cT dx (putF "ties" (.ref dt) (putF "places" (.ref dp) (putF "way" (.ref wy) []))))) sf=some (.ins cT dx (putF "ties" (.ref dt) (putF "places" (.ref dp) (putF "way" (.ref wy) [])))):=upd_same
  have p5:(upd H4 sf (.ins cT dx (putF "ties" (.ref dt) (putF "places" (.ref dp) (putF "way" (.ref wy) []))))) dp=some (.dK []):=by rw[upd_ne np];exact s4 _ _ p3
  have t5:(upd H4 sf (.ins cT dx (putF "ties" (.ref dt) (putF "places" (.ref dp) (putF "way" (.ref wy) []))))) dt=some (.dK []):=by rw[upd_ne nt];exact t4
  generalize upd H4 sf (.ins cT dx (putF "ties" (.ref dt) (putF "places" (.ref dp) (putF "way" (.ref wy) []))))=H5 at k5 g5 p5 t5
  refine fun dg hdg=>⟨_,rfl,sf,cT,dx,_,rfl,same_new hdg _ _ g5,S.cl,S.n4,(Nat.lt_of_le_of_lt (few _ _ (few _ _ (few _ _ (Nat.le_refl 0)))) (by decide)),?_⟩
  have ng:dg≠sf:=fun z=>by rw[z,g5]at hdg;cases hdg
  have npg:dp≠dg:=fun z=>by rw[<-z,p5]at hdg;cases hdg
  have ntg:dt≠dg:=fun z=>by rw[<-z,t5]at hdg;cases hdg
  have s6:=same_new (o:= .dK []) hdg
  have d6:(upd H5 dg (.dK [])) dg=some (.dK []):=upd_same
  generalize upd H5 dg (.dK [])=H6 at s6 d6
  refine⟨_,rfl,sf,cT,dx,_,rfl,upd_same,S.cl,S.n5,(Nat.lt_of_le_of_lt (few _ _ (few _ _ (few _ _ (few _ _ (Nat.le_refl 0))))) (by decide)),?_⟩
  refine⟨_,rfl,sf,cT,dx,_,rfl,upd_same,S.cl,S.n6,(Nat.lt_of_le_of_lt (few _ _ (few _ _ (few _ _ (few _ _ (few _ _ (Nat.le_refl 0)))))) (by decide)),?_⟩
  rw[upd_upd,upd_upd]
  refine q _ (fun b o n e=>by rw[upd_ne n];exact s6 _ _ (k5 b o n e)) ⟨dx,wy,dw,dp,dt,dg,?_,?_,?_,?_,?_,ntg,npt,npg,fun x hx=>by cases hx⟩
  ·rw[upd_same]
   rfl
  ·rw[upd_ne (Ne.symm ne)];exact s6 _ _ (k5 _ _ (Ne.symm ne) hw)
  ·rw[upd_ne np];exact s6 _ _ p5
  ·rw[upd_ne nt];exact s6 _ _ t5
  ·rw[upd_ne ng];exact d6
end
end My
namespace L2
open PySem PySem.Spec PyProof.Rows
structure MeX(P:Program)(w:World)(K:PySem.W.Frag)(mg:Str->Option Value)(base:Heap)(C:Addr)(m:Str)(ps:List Str)(k:Nat)(sp:Sp):Prop where
 ex:∃f fd,FnOk P w K mg base (RX.CXe P w) k f fd ps sp/\Meth K C m f/\Cls K C/\Binds K fd ps []
theorem MeX.mono{P:Program}{w:World}{K:PySem.W.Frag}{mg:Str->Option Value}{base:Heap}{C:Addr}{x:Str}{ps:List Str}{j k:Nat}{sp:Sp}(F:MeX P w K mg base C x ps j sp)(h:j<=k):MeX P w K mg base C x ps k sp:=
 let⟨f,fd,a,b⟩:=F.ex;⟨f,fd,a.mono h,b⟩
theorem pe_mx{P:Program}{w:World}{K:PySem.W.Frag}{mg:Str->Option Value}{base:Heap}{N:List Str}{qual:Str}{scope:Scope}{f:Addr}{cd:Value}{A:Around}{outer:List Env}{s:Shared}{H:Hp}{E:XK}
  {C:Addr}{m:Str}{ps:List Str}{k:Nat}{sp:Sp}{o e:Expr}{es:List Expr}{ta:TE}{t:TA}{apos pos:Pos}{pl:Sem Bool}(F:MeX P w K mg base C m ps k sp)(hr:Room k (cxOf (RX.CXe P w) P w K mg base N qual scope f cd A outer s H E).A)(he:PE (cxOf (RX.CXe P w) P w K mg base N qual scope f cd A outer s H E) o ta)(ha:PA (cxOf (RX.CXe P w) P w K mg base N qual scope f cd A outer s H E) (e::es) t)
  (h1:plainE e=true:=by rfl)(h2:es.all plainE=true:=by rfl)
  (ht:eval (.Call (.Attribute o m apos) (e::es) [] pos) (cxOf (RX.CXe P w) P w K mg base N qual scope f cd A outer s H E).env=(do
   let ov<-eval o (cxOf (RX.CXe P w) P w K mg base N qual scope f cd A outer s H E).env
   standAt apos.atName
   let(g,first)<-holding [ov] (getMethod ov m pl)
   callWith pos g first (backTo pos (starEach (e::es) (cxOf (RX.CXe P w) P w K mg base N qual scope f cd A outer s H E).env)) (backToKw pos (keywordEach [] (cxOf (RX.CXe P w) P w K mg base N qual scope f cd A outer s H E).env))):=by rfl):
  PE (cxOf (RX.CXe P w) P w K mg base N qual scope f cd A outer s H E) (.Call (.Attribute o m apos) (e::es) [] pos) (tMeth C m sp [] E ta t):=
 let⟨_,_,a,b,c,d⟩:=F.ex;pe_meth (pl:=pl) he c b a hr d .nil (RX.passX fun _ _ _ z=>z) ha (star_cons h1) (star_any h2) ht
end L2
namespace My
open PySem L2 Tx
def nameV:V->Bool
 | .str z=>nameB z
 |_=>false
def smallV:V->Prop
 | .str z=>z.length<=100000
 |_=>True
structure XcN(K:PySem.W.Frag)(mg:Str->Option Value)(x:Str)(C:Addr):Prop where
 ex:∃D,RX.xcIn K C D=true
 cn:RX.xnIn K C=true
 kp:PySem.W.keepIn K (.ref C)=true
 hm:mg x=some (.ref C)
def NoNo(rr:Rws')(x:V):Prop:=∀i:Int,x= .int i->∀y∈rr,(y.2.no:Int)≠i
section
variable{P:Program}{w:World}{K:PySem.W.Frag}{mg:Str->Option Value}{base:Heap}{cT C cM cN:Addr}
inductive spNm2(vs:List V)(H:Hp)(Q:VK)(_z3:XK):Prop
 |mk (x:V) (_:vs=[x]) (_:Kn H x) (_:smallV x) (_:∀H',Same H H'->Q (.bl (nameV x)) H')
theorem ok_nm2{f:Addr}{fd:FuncData}{tL tM:Tok}(F:Fun K "is_name" "is_name" sNm f fd)(T:Bi mg)(hst:mg "str"=none)(mL:mg "LETTERS"=some (.str letters tL))(mM:mg "MOST_LETTERS"=some (.int 8 tM))(FW:FnE P w K mg base "is_word" nWd 1 spWd):FnOk P w K mg base CX0 2 f fd ["thing"] spNm2:=by
 refine F.ok scNm (fun vs H Q E h=>?_) (fun cdv A outer s H vs Q E hr h=>?_)
 ·obtain⟨z,rfl,_⟩:=h
  rfl
 ·obtain⟨z,rfl,kn,hz,q⟩:=h
  refine⟨_,pss_one (ps_ret (pe_and (pe_callB call_isinst rfl T.isi bIsi (pa_c (pv 0) (pa_c (pe_bltn (v:= .ty "str") rfl hst bStr rfl) pa_nil)))
   (pe_one (pe_fc FW hr (pa_c (pv 0) (pa_c (pe_glob (v:= .str letters) rfl mL ⟨_,rfl⟩) (pa_c (pe_glob (v:= .int 8) rfl mM ⟨_,rfl⟩) pa_nil))))))),?_⟩
  cases kn with
  |str z=>exact⟨_,rfl,_,_,_,_,rfl,.str _,kit K "str" "str" true (by decide+kernel),_,rfl,iteT ⟨_,rfl,z,letters,8,rfl,hz,fun H' s'=>q H' s'⟩⟩
  |non=>exact⟨_,rfl,_,_,_,_,rfl,.non,kit K "NoneType" "str" false (by decide+kernel),_,rfl,iteF (q H (Same.refl H))⟩
  |bl b=>exact⟨_,rfl,_,_,_,_,rfl,.bl b,kit K "bool" "str" false (by decide+kernel),_,rfl,iteF (q H (Same.refl H))⟩
  |int i=>exact⟨_,rfl,_,_,_,_,rfl,.int i,kit K "int" "str" false (by decide+kernel),_,rfl,iteF (q H (Same.refl H))⟩
  |lst e=>exact⟨_,rfl,_,_,_,_,rfl,.lst e,kit K "list" "str" false (by decide+kernel),_,rfl,iteF (q H (Same.refl H))⟩
  |tup e=>exact⟨_,rfl,_,_,_,_,rfl,.tup e,kit K "tuple" "str" false (by decide+kernel),_,rfl,iteF (q H (Same.refl H))⟩
  |dK e=>exact⟨_,rfl,_,_,_,_,rfl,.dK e,kit K "dict" "str" false (by decide+kernel),_,rfl,iteF (q H (Same.refl H))⟩
abbrev sCk:Stmt:=inClass (top 58) 4
inductive spCk(cT C:Addr)(vs:List V)(H:Hp)(Q:VK)(_z3:XK):Prop
 |mk (t:Addr) (u:List Str) (rr:Rws') (md cr k:Nat) (_:vs=[.ref t,.int (k:Int)]) (_:TabZ cT C H t u rr md cr) (_:(∃x∈rr,x.2.no=k)) (_:∀H',Same H H'->Q .non H')
inductive spCkX(cT C cM:Addr)(vs:List V)(H:Hp)(_z2:VK)(E:XK):Prop
 |mk (t:Addr) (x:V) (u:List Str) (rr:Rws') (md cr:Nat) (_:vs=[.ref t,x]) (_:TabZ cT C H t u rr md cr) (_:Kn H x) (_:NoNo rr x) (_:∀H',Same H H'->E (.ref cM) none H')
theorem scCk:FnScope ["self","number"] ["self","number"] (defScope sCk):=⟨rfl,rfl,rfl,by decide+kernel,rfl,by decide+kernel,by decide+kernel⟩
theorem ok_ck{f:Addr}{fd:FuncData}(F:Fun K "check" "Table.check" sCk f fd)(S:TcC K cT)(FN:FnE P w K mg base "is_number" ["thing"] 1 spNum2):FnOk P w K mg base CX0 2 f fd ["self","number"] (spCk cT C):=by
 refine F.ok scCk (fun vs H Q E h=>?_) (fun cdv A outer s H vs Q E hr h=>?_)
 ·obtain⟨t,u,rr,md,cr,k,rfl,_⟩:=h
  rfl
 ·obtain⟨t,u,rr,md,cr,k,rfl,⟨dx,wy,dw,dp,dt,dg,Z⟩,hx,q⟩:=h
  have hu:=hu_of hr
  refine⟨_,pss_one (ps_if (PW.pt (pw_or (pt_not (pt_val (pe_fc FN hr (pa_c (pv 1) pa_nil)))) (pw_or1 (pt_cmp (pc_dnotin hu (pv 1) (pe_fld (pv 0) rfl)))))) pss_never pss_nil),?_⟩
  obtain⟨y,_,_,hv⟩:=kvR_in (f:=fun x=>V.int (x.2.hr:Int)) hx
  have g:=DGet.k (k:=Sum.inl (k:Int)) Z.g
  rw[show valV (rG rr) (Sum.inl (k:Int))=_ from hv]at g
  exact⟨_,rfl,.int (k:Int),rfl,.int _,_,rfl,iteF ⟨_,rfl,_,rfl,t,cT,dx,_,_,rfl,Z.t,S.cl,S.n4,rfl,dg,_,rfl,g,_,rfl,iteF (q H (Same.refl H))⟩⟩
theorem ok_ckX{f:Addr}{fd:FuncData}(F:Fun K "check" "Table.check" sCk f fd)(S:TcC K cT)(FN:FnE P w K mg base "is_number" ["thing"] 1 spNum2)(X:XcN K mg "NoMeeting" cM):FnOk P w K mg base (RX.CXe P w) 2 f fd ["self","number"] (spCkX cT C cM):=by
 obtain⟨D,c⟩:=X.ex
 refine RX.funX_ok F scCk (fun vs H Q E h=>?_) (fun cdv A outer s H vs Q E hr h=>?_)
 ·obtain⟨t,x,u,rr,md,cr,rfl,_⟩:=h
  rfl
 ·obtain⟨t,x,u,rr,md,cr,rfl,⟨dx,wy,dw,dp,dt,dg,Z⟩,kn,hx,q⟩:=h
  have hu:=hu_of hr
  refine⟨_,pss_one (ps_if (PT.nox (PW.pt (pw_or (pt_not (pt_val (pe_fc FN hr (pa_c (pv 1) pa_nil)))) (pw_or1 (pt_cmp (pc_dnotin hu (pv 1) (pe_fld (pv 0) rfl))))))) (pss_one (RX.ps_raise0 c X.cn X.kp hr rfl X.hm rfl rfl rfl (fun _ _ h=>h))) pss_nil),?_⟩
  refine⟨_,rfl,x,rfl,kn,_,rfl,?_⟩
  cases kn with
  |int i=>
   refine iteF ⟨_,rfl,_,rfl,t,cT,dx,_,_,rfl,Z.t,S.cl,S.n4,rfl,dg,_,rfl,DGet.k (k:=Sum.inl i) Z.g,_,rfl,?_⟩
   have hv:valV (rG rr) (Sum.inl i)=none:=by
    have h:=hx i rfl
    clear hx Z
    induction rr with
    |nil=>rfl
    |cons y rr ih=>
     unfold rG
     rw[List.map_cons,valV_neg (fun z=>h y (.head _) (Sum.inl.inj z))]
     exact ih fun y hy=>h y (.tail _ hy)
   rw[hv]
   exact iteT (q H (Same.refl H))
  |str z=>exact iteT (iteT (q H (Same.refl H)))
  |non=>exact iteT (iteT (q H (Same.refl H)))
  |bl b=>exact iteT (iteT (q H (Same.refl H)))
  |lst e=>exact iteT (iteT (q H (Same.refl H)))
  |tup e=>exact iteT (iteT (q H (Same.refl H)))
  |dK e=>exact iteT (iteT (q H (Same.refl H)))
abbrev sHr:Stmt:=inClass (top 58) 5
abbrev sLv:Stmt:=inClass (top 58) 3
theorem scHr:FnScope ["self","number"] ["self","number"] (defScope sHr):=⟨rfl,rfl,rfl,by decide+kernel,rfl,by decide+kernel,by decide+kernel⟩
theorem scLv:FnScope ["self","number"] ["self","number"] (defScope sLv):=⟨rfl,rfl,rfl,by decide+kernel,rfl,by decide+kernel,by decide+kernel⟩
theorem ok_hrX{f:Addr}{fd:FuncData}(F:Fun K "hour" "Table.hour" sHr f fd)(M:MeX P w K mg base cT "check" ["self","number"] 2 (spCkX cT C cM)):FnOk P w K mg base (RX.CXe P w) 3 f fd ["self","number"] (spCkX cT C cM):=by
 refine RX.funX_ok F scHr (fun vs H Q E h=>?_) (fun cdv A outer s H vs Q E hr h=>?_)
 ·obtain⟨t,x,u,rr,md,cr,rfl,_⟩:=h
  rfl
 ·obtain⟨t,x,u,rr,md,cr,rfl,hT,kn,hx,q⟩:=h
  refine⟨_,pss_cons (ps_expr (pe_mx M hr (pv 0) (pa_c (pv 1) pa_nil))) pss_never,?_⟩
  obtain⟨dx,wy,dw,dp,dt,dg,Z⟩:=id hT
  exact⟨_,rfl,t,dx,_,rfl,Z.t,rfl,_,rfl,t,x,u,rr,md,cr,rfl,hT,kn,hx,q⟩
theorem ok_lvX{f:Addr}{fd:FuncData}(F:Fun K "leave" "Table.leave" sLv f fd)(M:MeX P w K mg base cT "check" ["self","number"] 2 (spCkX cT C cM)):FnOk P w K mg base (RX.CXe P w) 3 f fd ["self","number"] (spCkX cT C cM):=by
 refine RX.funX_ok F scLv (fun vs H Q E h=>?_) (fun cdv A outer s H vs Q E hr h=>?_)
 ·obtain⟨t,x,u,rr,md,cr,rfl,_⟩:=h
  rfl
 ·obtain⟨t,x,u,rr,md,cr,rfl,hT,kn,hx,q⟩:=h
  refine⟨_,pss_cons (ps_expr (pe_mx M hr (pv 0) (pa_c (pv 1) pa_nil))) pss_never,?_⟩
  obtain⟨dx,wy,dw,dp,dt,dg,Z⟩:=id hT
  exact⟨_,rfl,t,dx,_,rfl,Z.t,rfl,_,rfl,t,x,u,rr,md,cr,rfl,hT,kn,hx,q⟩
inductive spLv(cT C:Addr)(vs:List V)(H:Hp)(Q:VK)(_z3:XK):Prop
 |mk (t:Addr) (u:List Str) (rr:Rws') (md cr k:Nat) (_:vs=[.ref t,.int (k:Int)]) (_:TabZ cT C H t u rr md cr) (_:(∃x∈rr,x.2.no=k)) (_:∀H',Keeps H H'->TabZ cT C H' t u (rr.filter fun x=>x.2.no !=k) md cr->Q .non H')
theorem ok_lv{f:Addr}{fd:FuncData}(F:Fun K "leave" "Table.leave" sLv f fd)(S:TcC K cT)(M:MeE P w K mg base cT "check" ["self","number"] 2 (spCk cT C)):FnOk P w K mg base CX0 3 f fd ["self","number"] (spLv cT C):=by
 refine F.ok scLv (fun vs H Q E h=>?_) (fun cdv A outer s H vs Q E hr h=>?_)
 ·obtain⟨t,u,rr,md,cr,k,rfl,_⟩:=h
  rfl
 ·obtain⟨t,u,rr,md,cr,k,rfl,hT,hx,q⟩:=h
  refine⟨_,pss_cons (ps_expr (pe_me M hr (pv 0) (pa_c (pv 1) pa_nil)))
   (pss_cons (ps_expr (pe_dpop1 (pe_fld (pv 0) rfl) (pv 1) ⟨rfl,rfl,rfl,rfl⟩))
   (pss_one (ps_expr (pe_dpop1 (pe_fld (pv 0) rfl) (pv 1) ⟨rfl,rfl,rfl,rfl⟩)))),?_⟩
  obtain⟨dx,wy,dw,dp,dt,dg,Z0⟩:=id hT
  refine⟨_,rfl,t,dx,_,rfl,Z0.t,rfl,_,rfl,t,u,rr,md,cr,k,rfl,hT,hx,fun H1 s1=>?_⟩
  have Z:=Z0.same s1
  obtain⟨y,hy,hno,hv⟩:=kvR_in (f:=fun x=>V.ref x.1) hx
  obtain⟨y2,hy2,hno2,hv2⟩:=kvR_in (f:=fun x=>V.int (x.2.hr:Int)) hx
  refine⟨_,rfl,t,cT,dx,_,_,rfl,Z.t,S.cl,S.n3,rfl,dt,rfl,.inl ⟨_,.inl Z.d⟩,_,rfl,rT rr,Sum.inl (k:Int),_,Z.d,rfl,hv,?_⟩
  have tt:t≠dt:=fun z=>by have:=Z.t;rw[z,Z.d]at this;cases this
  have tg:t≠dg:=fun z=>by have:=Z.t;rw[z,Z.g]at this;cases this
  have g2:(upd H1 dt (.dK (dropK (rT rr) (Sum.inl (k:Int))))) dg=some (.dK (rG rr)):=by rw[upd_ne (Ne.symm Z.tg)];exact Z.g
  refine⟨_,rfl,t,cT,dx,_,_,rfl,by rw[upd_ne tt];exact Z.t,S.cl,S.n4,rfl,dg,rfl,.inl ⟨_,.inl g2⟩,_,rfl,rG rr,Sum.inl (k:Int),_,g2,rfl,hv2,?_⟩
  have off:∀b o,H1 b=some o->(∀kvs,o≠.dK kvs)->(upd (upd H1 dt (.dK (dropK (rT rr) (Sum.inl (k:Int))))) dg (.dK (dropK (rG rr) (Sum.inl (k:Int))))) b=some o:=fun b o e n=>by
   rw[upd_ne (fun z=>by rw[z,Z.g]at e;exact n _ (Option.some.inj e).symm),upd_ne (fun z=>by rw[z,Z.d]at e;exact n _ (Option.some.inj e).symm)]
   exact e
  refine q _ (fun b o e ko=>off b o (s1 _ _ e) fun kvs z=>by subst z;exact ko) ⟨dx,wy,dw,dp,dt,dg,off _ _ Z.t (fun _=>nofun),off _ _ Z.w (fun _=>nofun),?_,?_,?_,Z.tg,Z.pt,Z.pg,fun x hx=>off _ _ (Z.e x (List.mem_filter.mp hx).1) (fun _=>nofun)⟩
  ·rw[upd_ne Z.pg,upd_ne Z.pt];exact Z.p
  ·rw[upd_ne Z.tg,upd_same]
   unfold rT
   rw[kvR_drop]
  ·rw[upd_same]
   unfold rG
   rw[kvR_drop]
end
end My
set_option maxHeartbeats 1000000
namespace PyProof.Rows
open PySem
section
variable{prog:Program}{w:World}{A:Around}{E:Value->Shared->Prop}{s:Shared}
theorem list_sort_one{a:Addr}{v:Value}{n:Nat}{P:Fin->Shared->Prop}(ho:s.heap.get? a=some (seqObj "list" [v].toArray n))
  (h:P (.done (.ret .none)) {s with heap:=sortedHeap s.heap a [v] #[v]}):wpAny (model prog w) A (Builtin.«list.sort» ⟨[.ref a],[]⟩) P E s:=by
 rw[list_sort_plain]
 have ha:a<s.heap.objs.size:=Heap.lt_size ho
 refine wpAny_bind (listItems_at ho rfl ?_)
 refine wpAny_bind (listUpdate_at ho rfl ?_)
 obtain⟨e1,ho1⟩:∃e1,(s.heap.update a (Obj.mapSeq fun _=>#[])).get? a=some (seqObj "list" #[] e1):=⟨_,get?_update_seq ho (fun _=>#[])⟩
 refine wpAny_bind (seqEpoch_at ho1 rfl ?_)
 refine wpAny_bind (wpAny_newTuple ?_)
 refine wpAny_bind (wpAny_newList ?_)
 refine wpAny_holding ?_
 have ho6:(((s.heap.update a (Obj.mapSeq fun _=>#[])).push (seqObj "tuple" [v].toArray 0)).push (seqObj "list" #[] 0)).get? a=some (seqObj "list" #[] e1):=by
  rw[Heap.get?_push_ne _ _ _ (by rw[size_push',Heap.size_update];exact Nat.ne_of_lt (Nat.lt_succ_of_lt ha)),Heap.get?_push_ne _ _ _ (by rw[Heap.size_update];exact Nat.ne_of_lt ha)]
  exact ho1
 show wpAny (model prog w) A _ P E {s with heap:=((s.heap.update a (Obj.mapSeq fun _=>#[])).push (seqObj "tuple" [v].toArray 0)).push (seqObj "list" #[] 0)}
 dsimp only
 have h2:[v].toArray.size<2:=by simp
 rw[if_pos h2,if_pos h2]
 refine wpAny_bind (wpAny_pure ?_)
 rw[StateT.run_pure]
 refine wpAny_bind (wpAny_pure ?_)
 dsimp only
 refine wpAny_bind (seqEpoch_at ho6 rfl ?_)
 refine wpAny_bind (listUpdate_at ho6 rfl ?_ (hsz2:=by rw[Array.size_map];show(pairsOf [v]).size<=_;rw[pairsOf_size,sizeLine_eq];show 1<=_;decide))
 simp only[bne_self_eq_false,Bool.false_eq_true,if_false]
 have e:(arrOf (SortSt.mk' general' ([v].toArray.zip [v].toArray) #[] 7 none)).map (·.2)=#[v]:=by show(pairsOf [v]).map (·.2)=#[v];simp[pairsOf]
 rw[e]
 exact wpAny_pure h
theorem sorted_one{l:Addr}{v:Value}{Q:Value->Shared->Prop}(hl:s.heap.IsList l [v].toArray)(h:Q (.ref (s.heap.objs.size+1)) {s with heap:=sortedAll s.heap [v] #[v]}):
  wpAny (model prog w) A (call (.builtin "sorted") [.ref l]) Q E s:=by
 refine Calls.call_function_entry kind_sorted plain_sorted entry_sorted (args_sorted1 _) ?_
 unfold Builtin.«sorted»
 refine wpAny_bind (m:=checkCount "sorted" 1 1 _) (wpAny_pure ?_)
 refine wpAny_bind (collect_list hl ?_)
 refine wpAny_bind (wpAny_newList ?_)
 have hsz:((s.heap.push (seqObj "list" #[] 0)).update s.heap.objs.size (Obj.mapSeq (·++[v].toArray))).objs.size=s.heap.objs.size+1:=by
  rw[Heap.size_update,size_push']
 have hoL:(((s.heap.push (seqObj "list" #[] 0)).update s.heap.objs.size (Obj.mapSeq (·++[v].toArray))).push (seqObj "list" [v].toArray 0)).get? (s.heap.objs.size+1)=some (seqObj "list" [v].toArray 0):=by
  rw[<-hsz];exact Heap.get?_push_size _ rfl
 show wpAny _ _ _ _ _ {s with heap:=((s.heap.push (seqObj "list" #[] 0)).update s.heap.objs.size (Obj.mapSeq (·++[v].toArray))).push (seqObj "list" [v].toArray 0)}
 rw[hsz]
 refine wpAny_bind (wpAny_holding (wpAny_call_entry slot_list_sort ⟨_,hoL,rfl⟩ entry_list_sort (list_sort_one hoL ⟨_,rfl,?_⟩) (args_list_sort _)))
 exact wpAny_pure ⟨_,rfl,h⟩
end
end PyProof.Rows
namespace L2
open PySem PySem.Spec PyProof.Rows
theorem call_sorted1{X:Cx}:CallR X (.builtin "sorted") (fun xs H Q=>∃l v,xs=[.ref l]/\SqL X.K H l [v]/\∀p H',Same H H'->H' p=some (.lst [v])->Q (.ref p) H'):=by
 intro pins s σ H xs us Q I r h
 obtain⟨l,v,rfl,hl,q⟩:=h
 obtain⟨u,rfl,rx⟩:=vals1 r
 cases(show u=Value.ref l from rx)
 obtain⟨vs,rv,pl,hz⟩:=I.list hl
 obtain⟨u,rfl,ru⟩:=rv.one
 refine sorted_one pl.isList ?_
 obtain⟨e,he⟩:=sortedAll_at s.heap [u] #[u]
 refine⟨.ref (s.heap.objs.size+1),_,I.laid (t':=s.toks) (a:=s.heap.objs.size+1) (o:= .lst [v]) (fun _ _ q=>sortedAll_old q) (Nat.le_succ _) ?_,rfl,q _ _ (same_add (I.hok.fresh (Nat.le_succ _))) upd_same⟩
 exact⟨le1000 rfl,[u],e,.cons ru .nil,he⟩
end L2
namespace Tx
open PySem
theorem idx_nd:∀{u:List Str}{i:Nat}{z:Str},u.Nodup->u[i]?=some z->idx u z=i
 |[],i,z,_,h=>by cases h
 |y::u,0,z,_,h=>by cases h;unfold idx;rw[if_pos rfl]
 |y::u,i+1,z,nd,h=>by
  obtain⟨a,b⟩:=List.nodup_cons.mp nd
  have hz:z∈u:=List.mem_of_getElem? (show u[i]?=some z from h)
  have:¬y=z:=fun e=>a (e▸hz)
  unfold idx
  rw[if_neg this,idx_nd b (show u[i]?=some z from h)]
end Tx
namespace L2
open PySem PySem.Spec PyProof.Rows
theorem pe_me0{X:Cx}{C:Addr}{m:Str}{ps:List Str}{k:Nat}{sp:Sp}{o:Expr}{ta:TE}{apos pos:Pos}{pl:Sem Bool}(F:MeE X.prog X.w X.K X.mg X.base C m ps k sp)(hr:Room k X.A)(he:PE X o ta)
  (ht:eval (.Call (.Attribute o m apos) [] [] pos) X.env=(do
   let ov<-eval o X.env
   standAt apos.atName
   let(f,first)<-holding [ov] (getMethod ov m pl)
   callWith pos f first (backTo pos (starEach [] X.env)) (backToKw pos (keywordEach [] X.env))):=by rfl):
  PE X (.Call (.Attribute o m apos) [] [] pos) (tMeth C m sp [] E0 ta tNil):=
 let⟨_,_,a,b,c,d⟩:=F.ex;pe_meth0 (pl:=pl) he c b a hr d .nil pass0 ht
end L2
namespace My
open PySem L2 Tx
theorem bSorted:bootBuiltins "sorted"=some (.builtin "sorted"):=by decide+kernel
def lnR(u:List Str)(x:Addr×Rw):Ln:=⟨u.getD x.2.e.1 Str.empty,u.getD x.2.e.2 Str.empty,some (x.2.hr:Int)⟩
def lsR(u:List Str)(rr:Rws'):List Ln:=rr.map (lnR u)
theorem getD_at{u:List Str}{i:Nat}(h:i<u.length):u[i]?=some (u.getD i Str.empty):=by rw[List.getD_eq_getElem?_getD,List.getElem?_eq_getElem h];rfl
theorem lnR_ok{u:List Str}{rr:Rws'}{md cr:Nat}(O:TbOk u rr md cr){x:Addr×Rw}(hx:x∈rr):(lnR u x).ok/\(lnR u x).a∈u/\(lnR u x).b∈u/\tieOf u (lnR u x)=x.2.e:=by
 obtain⟨h1,h2,h3⟩:=O.en x hx
 have a1:=getD_at h1
 have a2:=getD_at h2
 have m1:u.getD x.2.e.1 Str.empty∈u:=List.mem_of_getElem? a1
 have m2:u.getD x.2.e.2 Str.empty∈u:=List.mem_of_getElem? a2
 have i1:=idx_nd O.und a1
 have i2:=idx_nd O.und a2
 refine⟨⟨O.unm _ m1,O.unm _ m2,fun e=>h3 ?_,fun n hn=>?_⟩,m1,m2,?_⟩
 ·have e':u.getD x.2.e.1 Str.empty=u.getD x.2.e.2 Str.empty:=e
  rw[<-i1,<-i2,e']
 ·cases hn
  have:=O.hr x hx
  omega
 ·show(idx u (u.getD x.2.e.1 Str.empty),idx u (u.getD x.2.e.2 Str.empty))=x.2.e
  rw[i1,i2]
section
variable{P:Program}{w:World}{K:PySem.W.Frag}{mg:Str->Option Value}{base:Heap}{cT C cM cN:Addr}
abbrev sNn:Stmt:=inClass (top 58) 8
inductive spNn(cT C:Addr)(vs:List V)(H:Hp)(Q:VK)(_z3:XK):Prop
 |mk (t:Addr) (u:List Str) (rr:Rws') (md cr:Nat) (_:vs=[.ref t]) (_:TabZ cT C H t u rr md cr) (_:TbOk u rr md cr) (_:∀H' p q,Same H H'->H' p=some (.tup [.int (u.length:Int),.ref q])->H' q=some (.tup (rr.map fun x=>V.ref x.1))->Q (.ref p) H')
theorem scNn:FnScope ["self"] ["self"] (defScope sNn):=⟨rfl,rfl,rfl,by decide+kernel,rfl,by decide+kernel,by decide+kernel⟩
theorem rT_snd(rr:Rws'):(rT rr).map (·.2)=rr.map fun x=>V.ref x.1:=by unfold rT;rw[List.map_map];rfl
theorem rG_snd(rr:Rws'):(rG rr).map (·.2)=rr.map fun x=>V.int (x.2.hr:Int):=by unfold rG;rw[List.map_map];rfl
theorem rT_len(rr:Rws'):(rT rr).length=rr.length:=by unfold rT;rw[List.length_map]
theorem rG_len(rr:Rws'):(rG rr).length=rr.length:=by unfold rG;rw[List.length_map]
theorem ok_nn{f:Addr}{fd:FuncData}(F:Fun K "net_now" "Table.net_now" sNn f fd)(T:Bi mg)(S:TcC K cT):FnOk P w K mg base CX0 1 f fd ["self"] (spNn cT C):=by
 refine F.ok scNn (fun vs H Q E h=>?_) (fun cdv A outer s H vs Q E hr h=>?_)
 ·obtain⟨t,u,rr,md,cr,rfl,_⟩:=h
  rfl
 ·obtain⟨t,u,rr,md,cr,rfl,⟨dx,wy,dw,dp,dt,dg,Z⟩,O,q⟩:=h
  refine⟨_,pss_one (ps_ret (pe_tupS (pa_c (pe_callB call_lenD rfl T.len bLen (pa_c (pe_fld (pv 0) rfl) pa_nil)) (pa_c (pe_callTy (call_tupleV hr) rfl T.tuple bTuple (pa_c (pe_bm0 PySem.F.plainAttrs_dict PySem.F.slot_dict_values PySem.F.type_dict_values mt_values (pe_fld (pv 0) rfl)) pa_nil)) pa_nil)))),?_⟩
  have hl:=O.r200
  refine⟨_,rfl,t,cT,dx,_,_,rfl,Z.t,S.cl,S.n2,rfl,dp,_,rfl,Z.p,_,rfl,t,cT,dx,_,_,rfl,Z.t,S.cl,S.n3,rfl,.inr (.inr (.inl ⟨rfl,.inl ⟨_,Z.d⟩⟩)),dt,_,rfl,rfl,Z.d,fun v hv=>?_⟩
  have s1:=same_new (o:=ValE v dt) hv
  refine⟨v,dt,rT rr,rfl,upd_same,s1 _ _ Z.d,by rw[rT_len];omega,fun qa H2 s2 hq=>⟨rfl,fun p H3 s3 hp=>?_⟩⟩
  rw[plc_len]at hp
  rw[rT_snd]at hq
  exact q H3 p qa (Same.trans s1 (Same.trans s2 s3)) hp (s3 _ _ hq)
abbrev sTx:Stmt:=inClass (top 58) 10
inductive spTx(cT C:Addr)(vs:List V)(H:Hp)(Q:VK)(_z3:XK):Prop
 |mk (t:Addr) (u:List Str) (rr:Rws') (md cr:Nat) (_:vs=[.ref t]) (_:TabZ cT C H t u rr md cr) (_:TbOk u rr md cr) (_:rr.length<=120) (_:∀H',Same H H'->Q (.str (txt (lsR u rr))) H')
theorem scTx:FnScope ["self"] ["self"] (defScope sTx):=⟨rfl,rfl,rfl,by decide+kernel,rfl,by decide+kernel,by decide+kernel⟩
theorem ok_tx{f:Addr}{fd:FuncData}(F:Fun K "text" "Table.text" sTx f fd)(T:Bi mg)(S:TcC K cT)(MN:MeE P w K mg base cT "net_now" ["self"] 2 (spNn cT C))(FS:FnE P w K mg base "shown" nSh 2 spSh):FnOk P w K mg base CX0 3 f fd ["self"] (spTx cT C):=by
 refine F.ok scTx (fun vs H Q E h=>?_) (fun cdv A outer s H vs Q E hr h=>?_)
 ·obtain⟨t,u,rr,md,cr,rfl,_⟩:=h
  rfl
 ·obtain⟨t,u,rr,md,cr,rfl,hT,O,h120,q⟩:=h
  refine⟨_,pss_one (ps_ret (pe_fc FS hr (pa_c (pe_callTy (call_tupleD hr) rfl T.tuple bTuple (pa_c (pe_fld (pv 0) rfl) pa_nil)) (pa_c (pe_me0 MN hr (pv 0)) (pa_c (pe_callTy (call_tupleV hr) rfl T.tuple bTuple (pa_c (pe_bm0 PySem.F.plainAttrs_dict PySem.F.slot_dict_values PySem.F.type_dict_values mt_values (pe_fld (pv 0) rfl)) pa_nil)) pa_nil))))),?_⟩
  obtain⟨dx,wy,dw,dp,dt,dg,Z⟩:=id hT
  have hl:=O.r200
  have h60:=O.u60
  refine⟨_,rfl,t,cT,dx,_,_,rfl,Z.t,S.cl,S.n2,rfl,dp,_,rfl,Z.p,by rw[plc_len];omega,fun pn H1 s1 hn=>?_⟩
  rw[plc_keys]at hn
  have Z1:=Z.same s1
  refine⟨_,rfl,t,dx,_,rfl,Z1.t,rfl,t,u,rr,md,cr,rfl,hT.same s1,O,fun H2 p qa s2 hp hq=>?_⟩
  have Z2:=Z1.same s2
  refine⟨_,rfl,t,cT,dx,_,_,rfl,Z2.t,S.cl,S.n4,rfl,.inr (.inr (.inl ⟨rfl,.inl ⟨_,Z2.g⟩⟩)),dg,_,rfl,rfl,Z2.g,fun v hv=>?_⟩
  have s3:=same_new (o:=ValE v dg) hv
  refine⟨v,dg,rG rr,rfl,upd_same,s3 _ _ Z2.g,by rw[rG_len];omega,fun ph H4 s4 hh=>?_⟩
  rw[rG_snd]at hh
  have s34:=Same.trans s3 s4
  have s24:=Same.trans s2 s34
  have Z4:=Z2.same s34
  refine⟨pn,p,qa,ph,.int (u.length:Int),rr.map fun x=>V.ref x.1,u,lsR u rr,rfl,s24 _ _ hn,s34 _ _ hp,s34 _ _ hq,⟨?_,fun i w hw=>?_⟩,?_,fun l hl=>?_,?_,fun H5 s5=>q H5 (Same.trans (Same.trans s1 s24) s5)⟩
  ·unfold lsR
   rw[List.length_map,List.length_map,List.length_map]
  ·unfold lsR at hw
   rw[List.map_map,List.getElem?_map]at hw
   cases hr:rr[i]? with
   |none=>rw[hr]at hw;cases hw
   |some x=>
    rw[hr]at hw
    cases hw
    have hx:=List.mem_of_getElem? hr
    refine⟨x.1,by rw[List.getElem?_map,hr];rfl,?_⟩
    show H4 x.1=some (.tup [.int ((tieOf u (lnR u x)).1:Int),.int ((tieOf u (lnR u x)).2:Int)])
    rw[(lnR_ok O hx).2.2.2]
    exact Z4.e x hx
  ·rw[hh]
   unfold lsR
   rw[List.map_map]
   rfl
  ·unfold lsR at hl
   obtain⟨x,hx,rfl⟩:=List.mem_map.mp hl
   obtain⟨a,b,c,_⟩:=lnR_ok O hx
   exact⟨a,b,c⟩
  ·unfold lsR
   rw[List.length_map]
   exact h120
abbrev sDy:Stmt:=inClass (top 58) 6
abbrev nDy:List Str:=["self","name","point"]
abbrev dyS:Scope:=compS (retX ((defBody sDy).getD 2 (.Pass ⟨0,0,0,0⟩)))
theorem scDy:FnScope nDy ["self","name"] (defScope sDy):=⟨rfl,rfl,rfl,by decide+kernel,rfl,by decide+kernel,by decide+kernel⟩
inductive spDyX(cT C cN:Addr)(vs:List V)(H:Hp)(_z2:VK)(E:XK):Prop
 |mk (t:Addr) (x:V) (u:List Str) (rr:Rws') (md cr:Nat) (_:vs=[.ref t,x]) (_:TabZ cT C H t u rr md cr) (_:Kn H x) (_:smallV x) (_:(∀z,x= .str z->nameB z=true->z ∉ u)) (_:∀H',Same H H'->E (.ref cN) none H')
theorem ok_dyX{f:Addr}{fd:FuncData}(F:Fun K "day" "Table.day" sDy f fd)(S:TcC K cT)(FN:FnE P w K mg base "is_name" ["thing"] 2 spNm2)(X:XcN K mg "NoName" cN):FnOk P w K mg base (RX.CXe P w) 3 f fd ["self","name"] (spDyX cT C cN):=by
 obtain⟨D,c⟩:=X.ex
 refine RX.funX_ok F scDy (fun vs H Q E h=>?_) (fun cdv A outer s H vs Q E hr h=>?_)
 ·obtain⟨t,x,u,rr,md,cr,rfl,_⟩:=h
  rfl
 ·obtain⟨t,x,u,rr,md,cr,rfl,⟨dx,wy,dw,dp,dt,dg,Z⟩,kn,sm,hx,q⟩:=h
  have hu:=hu_of hr
  refine⟨_,pss_cons (ps_if (PT.nox (PW.pt (pw_or (pt_not (pt_val (pe_fc FN hr (pa_c (pv 1) pa_nil)))) (pw_or1 (pt_cmp (pc_dnotin hu (pv 1) (pe_fld (pv 0) rfl))))))) (pss_one (RX.ps_raise0 c X.cn X.kp hr rfl X.hm rfl rfl rfl (fun _ _ h=>h))) pss_nil) pss_never,?_⟩
  refine⟨_,rfl,x,rfl,kn,sm,fun H1 s1=>⟨_,rfl,?_⟩⟩
  cases hb:nameV x with
  |false=>exact iteT (iteT (q H1 s1))
  |true=>
   cases x with
   |str z=>
    have hz:=hx z rfl hb
    have Z1:=Z.same s1
    refine iteF ⟨_,rfl,_,rfl,t,cT,dx,_,_,rfl,Z1.t,S.cl,S.n2,rfl,dp,_,rfl,DGet.k (k:=Sum.inr z) Z1.p,_,rfl,?_⟩
    rw[plc_out hz]
    exact iteT (q H1 s1)
   |_=>cases hb
end
end My
namespace L2
open PySem PySem.Spec PyProof.Rows
theorem Same.thaw{H H':Hp}{d:Addr}{ob:Obj}{kvs:List (Key×V)}(s:Same (upd H d (.frz ob (.dK kvs))) H')(hd:H d=some (.dK kvs)):Same H (upd H' d (.dK kvs)):=fun b o e=>by
 by_cases z:b=d
 ·subst z;rw[upd_same,<-hd];exact e
 ·rw[upd_ne z];exact s b o (by rw[upd_ne z];exact e)
theorem frz_ne{H:Hp}{d b:Addr}{ob:Obj}{kvs:List (Key×V)}{o:HO}(hd:H d=some (.dK kvs))(e:H b=some o)(n:∀ks,o≠.dK ks):upd H d (.frz ob (.dK kvs)) b=some o:=by
 rw[upd_ne fun z=>by rw[z,hd]at e;exact n _ (Option.some.inj e).symm];exact e
end L2
namespace My
open PySem L2 Tx
theorem kvR_int(k:Key):∀rr:Rws',(valV (rG rr) k=none)\/∃i:Int,valV (rG rr) k=some (.int i)
 |[]=> .inl rfl
 |x::rr=>by
  unfold rG
  rw[List.map_cons]
  by_cases z:(Sum.inl (x.2.no:Int):Key)=k
  ·exact .inr ⟨_,valV_pos z⟩
  ·rw[valV_neg z]
   exact kvR_int k rr
section
variable{P:Program}{w:World}{K:PySem.W.Frag}{mg:Str->Option Value}{base:Heap}{cT C cM cN:Addr}
inductive spDy(cT C:Addr)(vs:List V)(H:Hp)(Q:VK)(_z3:XK):Prop
 |mk (t:Addr) (z:Str) (u:List Str) (r1:Rws') (x0:Addr×Rw) (md cr:Nat) (_:vs=[.ref t,.str z]) (_:TabZ cT C H t u (r1++[x0]) md cr) (_:TbOk u (r1++[x0]) md cr) (_:nameB z=true) (_:z∈u) (_:(∀x∈r1,¬At x.2.e (idx u z))) (_:At x0.2.e (idx u z)) (_:∀H' p v,Same H H'->H' p=some (.tup [v])->Q (.ref p) H')
theorem ndDy:(["number","ends","point","self"]:List Str).Nodup:=by decide+kernel
theorem blkDy{f:Addr}{cdv:Value}{A:Around}{outer:List Env}{s:Shared}{H:Hp}{E:XK}:
  Blk (cxOf CX0 P w K mg base nDy "Table.day" (defScope sDy) f cdv A outer s H E).nox dyS [("self",s.heap.objs.size+1),("point",s.heap.objs.size+2)] ["number","ends","point","self"] [none,none,some 2,some 0]:=by
 refine⟨rfl,rfl,by decide+kernel,by decide+kernel,fun p hp=>?_,fun y hy e=>?_,⟨rfl,rfl,rfl⟩,⟨rfl,rfl,rfl⟩,trivial⟩
 ·simp only[List.mem_cons,List.not_mem_nil,or_false]at hp
  rcases hp with rfl|rfl<;>rfl
 ·have hy':y∈[((PySem.Str.ofString ".0":Str),NameKind.local),(PySem.Str.ofString "number",.local),(PySem.Str.ofString "ends",.local),(PySem.Str.ofString "point",.free),(PySem.Str.ofString "self",.free)]:=hy
  simp only[List.mem_cons,List.not_mem_nil,or_false]at hy'
  rcases hy' with rfl|rfl|rfl|rfl|rfl<;>first|rfl|cases e
theorem ok_dy{f:Addr}{fd:FuncData}(F:Fun K "day" "Table.day" sDy f fd)(T:Bi mg)(hso:mg "sorted"=none)(S:TcC K cT)(FN:FnE P w K mg base "is_name" ["thing"] 2 spNm2):FnOk P w K mg base CX0 3 f fd ["self","name"] (spDy cT C):=by
 refine F.ok scDy (fun vs H Q E h=>?_) (fun cdv A outer s H vs Q E hr h=>?_)
 ·obtain⟨t,z,u,r1,x0,md,cr,rfl,_⟩:=h
  rfl
 ·obtain⟨t,z,u,r1,x0,md,cr,rfl,⟨dx,wy,dw,dp,dt,dg,Z0⟩,O,hz,hm,hn,ha,q⟩:=h
  have hu:=hu_of hr
  refine⟨_,pss_cons (ps_if (PW.pt (pw_or (pt_not (pt_val (pe_fc FN hr (pa_c (pv 1) pa_nil)))) (pw_or1 (pt_cmp (pc_dnotin hu (pv 1) (pe_fld (pv 0) rfl)))))) pss_never pss_nil)
   (pss_cons (ps_set (i:=2) scDy.nd rfl (Or.inr rfl) (pe_dget hu (pe_fld (pv 0) rfl) (pv 1) (fun _ _=>rfl)))
   (pss_one (ps_ret (pe_callTy call_tuple_ofS rfl T.tuple bTuple (pa_c (pe_callB call_sorted1 rfl hso bSorted (pa_c (pe_frz (pe_lcI blkDy rfl (pe_fld (pv 0) rfl) (mono_fld (mono_var 0))
    (fun C fp s H=>pg_tupK (K:=K) (n:=2) rfl rfl (@pgs_cons _ _ _ _ _ (pg_name (i:=0) ndDy rfl (Or.inl rfl) (hf:=Or.inr rfl)) (@pgs_cons _ _ _ _ _ (pg_name (i:=1) ndDy rfl (Or.inl rfl) (hf:=Or.inr rfl)) pgs_nil rfl) rfl) rfl rfl)
    (fun C fp s H=>pts_one (pt_cmpR (op_inK rfl) (pv 2) (pv 1) rfl)) (fun C fp s H=>pe_tupS (pa_c (pe_dget hu (pe_fldK (K:=K) rfl (pv 3) rfl) (pv 0) (fun _ _=>rfl)) (pa_c (pv 0) pa_nil))))) pa_nil)) pa_nil))))),?_⟩
  have h8:=(name_ok hz).2.1
  refine⟨_,rfl,.str z,rfl,.str z,(by show z.length<=100000;omega),fun H1 s1=>⟨_,rfl,?_⟩⟩
  rw[show nameV (.str z)=true from hz]
  have Z:=Z0.same s1
  have gp:=DGet.k (k:=Sum.inr z) Z.p
  rw[plc_in hm]at gp
  refine iteF ⟨_,rfl,_,rfl,t,cT,dx,_,_,rfl,Z.t,S.cl,S.n2,rfl,dp,_,rfl,gp,_,rfl,iteF ?_⟩
  refine⟨_,rfl,t,cT,dx,_,_,rfl,Z.t,S.cl,S.n2,rfl,_,rfl,dp,_,rfl,gp,?_⟩
  rw[Nat.zero_add]
  refine⟨dt,_,Z.d,fun ob ep hh=>?_⟩
  have ft:=frz_ne (ob:=ob) Z.d Z.t (fun _=>nofun)
  have fg:upd H1 dt (.frz ob (.dK (rT (r1++[x0])))) dg=some (.dK (rG (r1++[x0]))):=by rw[upd_ne (Ne.symm Z.tg)];exact Z.g
  have fe:∀x∈r1++[x0],upd H1 dt (.frz ob (.dK (rT (r1++[x0])))) x.1=some (.tup [.int (x.2.e.1:Int),.int (x.2.e.2:Int)]):=fun x hx=>frz_ne Z.d (Z.e x hx) (fun _=>nofun)
  have fd0:upd H1 dt (.frz ob (.dK (rT (r1++[x0])))) dt=some (.frz ob (.dK (rT (r1++[x0])))):=upd_same
  have thaw:∀{H':Hp},Same (upd H1 dt (.frz ob (.dK (rT (r1++[x0]))))) H'->Same H1 (upd H' dt (.dK (rT (r1++[x0])))):=fun s=>s.thaw Z.d
  generalize upd H1 dt (.frz ob (.dK (rT (r1++[x0]))))=H2 at ft fg fe fd0 thaw
  have hl:=O.r200
  have hlen:(rT (r1++[x0])).length=r1.length+1:=by rw[rT_len,List.length_append];rfl
  rw[List.length_append,List.length_singleton]at hl
  refine⟨_,rfl,t,cT,dx,_,_,rfl,ft,S.cl,S.n3,rfl,dt,ob,_,ep,rfl,fd0,hh,by rw[hlen];omega,fun i zs σ G=>Same H2 G/\((i<=r1.length/\zs=[])\/(i=r1.length+1/\∃v,zs=[v]))/\∃v0 v1,σ=[v0,v1,some (.int (idx u z:Int)),some (.ref t)],
   ⟨Same.refl _,.inl ⟨Nat.zero_le _,rfl⟩,none,none,rfl⟩,fun i zs σ G hi⟨sG,hz,_⟩=>⟨sG _ _ fd0,?_⟩,fun i k v zs σ G hk xq1 TT G2 s2 hTT=>?_,fun zs σ G xq1 l G2 s2 hl2=>?_⟩
  ·rcases hz with⟨_,rfl⟩|⟨_,v,rfl⟩
   ·exact Nat.zero_le _
   ·show 1<=i;omega
  ·obtain⟨sG,hc,v0,v1,e⟩:=xq1
   subst e
   have hi:=(List.getElem?_eq_some_iff.mp hk).1
   rw[hlen]at hi
   unfold rT at hk
   rw[List.getElem?_map]at hk
   cases hx:(r1++[x0])[i]? with
   |none=>rw[hx]at hk;cases hk
   |some x=>
    rw[hx]at hk
    cases hk
    have hxm:=List.mem_of_getElem? hx
    have sG2:=Same.trans sG s2
    refine⟨TT,_,rfl,SqT.of hTT,rfl,_,_,rfl,_,_,rfl,rfl,?_⟩
    refine⟨_,rfl,_,rfl,x.1,_,rfl,.inr (SqT.of (sG2 _ _ (fe x hxm))),rfl,rfl,_,rfl,?_⟩
    refine ite2 (fun hh=>?_) (fun hh=>?_)
    ·have hat:=(in_at (idx u z) x.2.e).mp hh
     have ei:i=r1.length:=by
      rcases Nat.lt_or_ge i r1.length with c|c
      ·rw[List.getElem?_append_left c]at hx
       exact absurd hat (hn x (List.mem_of_getElem? hx))
      ·omega
     obtain⟨y,_,_,hv⟩:=kvR_in (f:=fun x=>V.int (x.2.hr:Int)) ⟨x,hxm,rfl⟩
     have gg:=DGet.k (k:=Sum.inl (x.2.no:Int)) (sG2 _ _ fg)
     rw[show valV (rG (r1++[x0])) (Sum.inl (x.2.no:Int))=_ from hv]at gg
     refine⟨_,rfl,t,cT,dx,_,_,rfl,sG2 _ _ ft,S.cl,S.n4,rfl,_,rfl,dg,_,rfl,gg,_,rfl,rfl,fun p G3 s3 hp=>⟨Same.trans sG2 s3,?_,_,_,rfl⟩⟩
     rcases hc with⟨_,rfl⟩|⟨c,_⟩
     ·exact .inr ⟨by omega,_,rfl⟩
     ·omega
    ·have ei:i<r1.length:=by
      rcases Nat.lt_or_ge i r1.length with c|c
      ·exact c
      ·have:i=r1.length:=by omega
       subst this
       rw[List.getElem?_append_right (Nat.le_refl _),Nat.sub_self]at hx
       cases hx
       exact absurd ((in_at (idx u z) x0.2.e).mpr ha) hh
     rcases hc with⟨_,rfl⟩|⟨c,_⟩
     ·exact⟨sG2,.inl ⟨by omega,rfl⟩,_,_,rfl⟩
     ·omega
  ·obtain⟨sG,hc,_⟩:=xq1
   rw[hlen]at hc
   rcases hc with⟨c,_⟩|⟨_,v,rfl⟩
   ·omega
   ·have sA:=Same.trans sG s2
    refine⟨sA _ _ fd0,l,v,rfl,SqL.of ?_,fun p G3 s3 hp=>⟨p,_,rfl,.inl hp,fun p2 G4 s4 hp2=>q G4 p2 v (Same.trans s1 (Same.trans (thaw sA) (Same.trans s3 s4))) hp2⟩⟩
    rw[upd_ne fun c=>by rw[c,sA _ _ fd0]at hl2;cases hl2]
    exact hl2
end
theorem rT_keys(rr:Rws'):(rT rr).map (·.1)=rr.map fun x=>(Sum.inl (x.2.no:Int):Key):=by unfold rT;rw[List.map_map];rfl
theorem rG_zip(rr:Rws'):((rT rr).map (·.1)).zip (rr.map fun x=>V.int (x.2.hr:Int))=rG rr:=by
 rw[rT_keys]
 unfold rG
 induction rr with
 |nil=>rfl
 |cons x rr ih=>rw[List.map_cons,List.map_cons,List.map_cons,List.zip_cons_cons,ih]
theorem rG_nd{rr:Rws'}(h:(rr.map fun x=>x.2.no).Nodup):fromPairsK (rG rr)=rG rr:=by
 refine fromPairsK_nd ?_
 unfold rG
 rw[List.map_map]
 show(rr.map fun x=>(Sum.inl (x.2.no:Int):Key)).Nodup
 rw[List.nodup_iff_pairwise_ne]at h⊢
 rw[List.pairwise_map]at h⊢
 exact h.imp fun h z=>h (by have:=Sum.inl.inj z;omega)
section
variable{P:Program}{w:World}{K:PySem.W.Frag}{mg:Str->Option Value}{base:Heap}{cT C cM cN:Addr}
abbrev sMv:Stmt:=inClass (top 58) 2
abbrev nMv:List Str:=["self","tints","moved"]
abbrev mvS:Scope:=compS (retX ((defBody sMv).getD 0 (.Pass ⟨0,0,0,0⟩)))
theorem scMv:FnScope nMv ["self","tints"] (defScope sMv):=⟨rfl,rfl,rfl,by decide+kernel,rfl,by decide+kernel,by decide+kernel⟩
theorem ndMv:(["number","tint","self"]:List Str).Nodup:=by decide+kernel
theorem blkMv{f:Addr}{cdv:Value}{A:Around}{outer:List Env}{s:Shared}{H:Hp}{E:XK}:
  Blk (cxOf CX0 P w K mg base nMv "Table.moved_to" (defScope sMv) f cdv A outer s H E).nox mvS [("self",s.heap.objs.size+1)] ["number","tint","self"] [none,none,some 0]:=by
 refine⟨rfl,rfl,by decide+kernel,by decide+kernel,fun p hp=>?_,fun y hy e=>?_,⟨rfl,rfl,rfl⟩,trivial⟩
 ·rw[List.mem_singleton.mp hp]
  rfl
 ·have hy':y∈[((PySem.Str.ofString ".0":Str),NameKind.local),(PySem.Str.ofString "number",.local),(PySem.Str.ofString "tint",.local),(PySem.Str.ofString "self",.free)]:=hy
  simp only[List.mem_cons,List.not_mem_nil,or_false]at hy'
  rcases hy' with rfl|rfl|rfl|rfl<;>first|rfl|cases e
inductive spMv(cT:Addr)(vs:List V)(H:Hp)(Q:VK)(_z3:XK):Prop
 |mk (t r dx wy dp dt dg:Addr) (rr r2:Rws') (md cr:Nat) (_:vs=[.ref t,.ref r]) (_:H t=some (.ins cT dx (flds wy dp dt dg md cr))) (_:H dt=some (.dK (rT r2))) (_:H dg=some (.dK (rG rr))) (_:dt≠dg) (_:H r=some (.tup (r2.map fun x=>V.int (x.2.hr:Int)))) (_:r2.length<=200) (_:(r2.map fun x=>x.2.no).Nodup) (_:∀H' p g2 mv,(∀b o,b≠t->H b=some o->H' b=some o)->H' t=some (.ins cT dx (flds wy dp dt g2 md cr))->H g2=none->H' g2=some (.dK (rG r2))->H' p=some (.tup mv)->Q (.ref p) H')
theorem ok_mv{f:Addr}{fd:FuncData}(F:Fun K "moved_to" "Table.moved_to" sMv f fd)(T:Bi mg)(S:TcC K cT):FnOk P w K mg base CX0 1 f fd ["self","tints"] (spMv cT):=by
 refine F.ok scMv (fun vs H Q E h=>?_) (fun cdv A outer s H vs Q E hr h=>?_)
 ·obtain⟨t,r,dx,wy,dp,dt,dg,rr,r2,md,cr,rfl,_⟩:=h
  rfl
 ·obtain⟨t,r,dx,wy,dp,dt,dg,rr,r2,md,cr,rfl,ht,hd,hg,ntg,hR,hl,nd,q⟩:=h
  have hu:=hu_of hr
  refine⟨_,pss_cons (ps_frz (ps_lcZD blkMv rfl rfl T.zip (pa_c (pe_fld (pv 0) rfl) (pa_c (pv 1) pa_nil)) (monoA_cons (mono_fld (mono_var 0)) (monoA_cons (mono_var 1) monoA_nil)) rfl rfl
    (fun C fp s H=>pg_tupK (K:=K) (n:=2) rfl rfl (@pgs_cons _ _ _ _ _ (pg_name (i:=0) ndMv rfl (Or.inl rfl) (hf:=Or.inr rfl)) (@pgs_cons _ _ _ _ _ (pg_name (i:=1) ndMv rfl (Or.inl rfl) (hf:=Or.inr rfl)) pgs_nil rfl) rfl) rfl rfl)
    (fun C fp s H=>pts_one (pt_cmpR op_ne (pe_dget2 hu (pe_fldK (K:=K) rfl (pv 2) rfl) (pv 0) (pv 1) ⟨rfl,rfl,rfl,rfl⟩) (pv 1) (nomark _))) (fun C fp s H=>pv 0) (pg_name (i:=2) scMv.nd rfl (Or.inl rfl)) rfl))
   (pss_cons (ps_fld (pv 0) (pe_dictZ hr rfl T.dict rfl T.zip (pa_c (pe_fld (pv 0) rfl) (pa_c (pv 1) pa_nil)) rfl rfl) rfl)
   (pss_one (ps_ret (pe_callTy call_tuple_ofS rfl T.tuple bTuple (pa_c (pv 2) pa_nil))))),?_⟩
  refine⟨dt,_,hd,fun ob ep hh=>?_⟩
  have ft:=frz_ne (ob:=ob) hd ht (fun _=>nofun)
  have fR:=frz_ne (ob:=ob) hd hR (fun _=>nofun)
  have fg:upd H dt (.frz ob (.dK (rT r2))) dg=some (.dK (rG rr)):=by rw[upd_ne (Ne.symm ntg)];exact hg
  have fd0:upd H dt (.frz ob (.dK (rT r2))) dt=some (.frz ob (.dK (rT r2))):=upd_same
  have thaw:∀{H':Hp},Same (upd H dt (.frz ob (.dK (rT r2)))) H'->Same H (upd H' dt (.dK (rT r2))):=fun s=>s.thaw hd
  generalize upd H dt (.frz ob (.dK (rT r2)))=H2 at ft fg fR fd0 thaw
  have hlen:(rT r2).length=(r2.map fun x=>V.int (x.2.hr:Int)).length:=by rw[rT_len,List.length_map]
  have hlz:(r2.map fun x=>V.int (x.2.hr:Int)).length=r2.length:=by rw[List.length_map]
  refine⟨_,rfl,t,cT,dx,_,_,rfl,ft,S.cl,S.n3,rfl,_,rfl,dt,r,ob,_,ep,_,rfl,fd0,hh,SqT.of fR,hlen,by omega,fun i zs σ G=>Same H2 G/\zs.length<=i/\∃v0 v1,σ=[v0,v1,some (.ref t)],
   ⟨Same.refl _,Nat.le_refl _,none,none,rfl⟩,fun i zs σ G hi⟨sG,hz,_⟩=>⟨sG _ _ fd0,SqT.of (sG _ _ fR),hz⟩,fun i k x y zs σ G hk hy xq1 TT G2 s2 hTT=>?_,fun zs σ G xq1 l hl2=>?_⟩
  ·obtain⟨sG,hz,v0,v1,e⟩:=xq1
   subst e
   have sG2:=Same.trans sG s2
   unfold rT at hk
   rw[List.getElem?_map]at hk
   rw[List.getElem?_map]at hy
   cases hx:r2[i]? with
   |none=>rw[hx]at hk;cases hk
   |some x=>
    rw[hx]at hk hy
    cases hk
    cases hy
    refine⟨TT,_,rfl,SqT.of hTT,rfl,_,_,rfl,_,_,rfl,rfl,?_⟩
    refine⟨_,rfl,t,cT,dx,_,_,rfl,sG2 _ _ ft,S.cl,S.n4,rfl,dg,rfl,.inl ⟨_,.inl (sG2 _ _ fg)⟩,_,rfl,_,rfl,_,DGet.k (k:=Sum.inl (x.2.no:Int)) (sG2 _ _ fg),_,rfl,?_⟩
    have fin:∀b:Bool,if b=true then tVar 0 [some (V.int (x.2.no:Int)),some (V.int (x.2.hr:Int)),some (V.ref t)] G2 (fun v H5=>Same H2 H5/\(zs++[v]).length<=i+1/\∃v0 v1,[some (V.int (x.2.no:Int)),some (V.int (x.2.hr:Int)),some (V.ref t)]=[v0,v1,some (V.ref t)])else Same H2 G2/\zs.length<=i+1/\∃v0 v1,[some (V.int (x.2.no:Int)),some (V.int (x.2.hr:Int)),some (V.ref t)]=[v0,v1,some (V.ref t)]:=fun b=>by
     cases b
     ·exact iteF ⟨sG2,by omega,_,_,rfl⟩
     ·exact iteT ⟨_,rfl,sG2,by rw[List.length_append];show zs.length+1<=_;omega,_,_,rfl⟩
    rcases kvR_int (Sum.inl (x.2.no:Int)) rr with hv|⟨j,hv⟩
    ·rw[hv]
     exact⟨rfl,_,rfl,fin _⟩
    ·rw[hv]
     exact⟨rfl,_,rfl,fin _⟩
  ·obtain⟨sG,hz,_⟩:=xq1
   have nl:l≠dt:=fun c=>by rw[c,sG _ _ fd0]at hl2;cases hl2
   refine⟨by rw[upd_ne (Ne.symm nl)];exact sG _ _ fd0,?_⟩
   have s3:Same H (upd (upd G l (.lst zs)) dt (.dK (rT r2))):=thaw (Same.trans sG (same_new hl2))
   have l3:(upd (upd G l (.lst zs)) dt (.dK (rT r2))) l=some (.lst zs):=by rw[upd_ne nl,upd_same]
   generalize upd (upd G l (.lst zs)) dt (.dK (rT r2))=H3 at s3 l3
   refine⟨_,rfl,t,cT,dx,_,_,rfl,s3 _ _ ht,S.cl,S.n3,rfl,_,rfl,dt,r,_,_,rfl,s3 _ _ hd,SqT.of (s3 _ _ hR),hlen,by omega,fun g2 hg2=>?_⟩
   rw[rG_zip,rG_nd nd]
   have s4:=Same.trans s3 (same_new (o:= .dK (rG r2)) hg2)
   have l4:=same_new (o:= .dK (rG r2)) hg2 _ _ l3
   have g4:(upd H3 g2 (.dK (rG r2))) g2=some (.dK (rG r2)):=upd_same
   have n4:=s3.none hg2
   generalize upd H3 g2 (.dK (rG r2))=H4 at s4 l4 g4
   refine⟨_,rfl,t,cT,dx,_,rfl,s4 _ _ ht,S.cl,S.n4,(by show 6<1000;decide),?_⟩
   have ntg2:g2≠t:=fun c=>by rw[c,ht]at n4;cases n4
   have ntl:l≠t:=fun c=>by rw[c,s4 _ _ ht]at l4;cases l4
   refine⟨_,rfl,l,_,rfl,.inl (by rw[upd_ne ntl];exact l4),fun p H6 s6 hp=>q H6 p g2 _ (fun b o n e=>s6 _ _ (by rw[upd_ne n];exact s4 _ _ e)) (s6 _ _ ?_) n4 (s6 _ _ (by rw[upd_ne ntg2];exact g4)) hp⟩
   rw[upd_same]
   rfl
end
theorem tvR(rr:Rws'):tv (tlR rr)=rr.map fun x=>V.int (x.2.hr:Int):=by
 unfold tv tlR
 rw[List.map_map]
 rfl
theorem tlR_len(rr:Rws'):(tlR rr).length=rr.length:=by unfold tlR;rw[List.length_map]
theorem esR_len(rr:Rws'):(esR rr).length=rr.length:=by unfold esR;rw[List.length_map]
theorem tlR_set(rr:Rws')(x:Addr×Rw):(tlR rr++[none]).set rr.length (some x.2.hr)=tlR (rr++[x]):=by
 unfold tlR
 rw[List.map_append]
 have:=List.set_append (s:=rr.map fun x=>some x.2.hr) (t:=[none]) (i:=rr.length) (x:=some x.2.hr)
 rw[List.length_map,if_neg (Nat.lt_irrefl _),Nat.sub_self]at this
 exact this
theorem es_last(es:List (Nat×Nat))(e:Nat×Nat):(es++[e]).getD es.length (0,0)=e:=by
 rw[List.getD_eq_getElem?_getD,List.getElem?_append_right (Nat.le_refl _),Nat.sub_self]
 rfl
structure MeOk(W:WayF)(u:List Str)(rr:Rws')(md cr:Nat)(a b:Str):Prop where
 O:TbOk u rr md cr
 na:nameB a=true
 nb:nameB b=true
 ne:a≠b
 u60:(addNs u [a,b]).length<=60
 r200:rr.length<200
 ok:W.ok (esR rr++[(idx (addNs u [a,b]) a,idx (addNs u [a,b]) b)])
 room:∀M:Int,((dg (esR rr++[(idx (addNs u [a,b]) a,idx (addNs u [a,b]) b)]) (rr.length+1) (idx (addNs u [a,b]) a):Nat):Int)<=M->((dg (esR rr++[(idx (addNs u [a,b]) a,idx (addNs u [a,b]) b)]) (rr.length+1) (idx (addNs u [a,b]) b):Nat):Int)<=M->
  ((dg (esR rr++[(idx (addNs u [a,b]) a,idx (addNs u [a,b]) b)]) (rr.length+1) (idx (addNs u [a,b]) a):Nat):Int)+(dg (esR rr++[(idx (addNs u [a,b]) a,idx (addNs u [a,b]) b)]) (rr.length+1) (idx (addNs u [a,b]) b):Nat)<=W.nd M+1
section
variable{P:Program}{w:World}{K:PySem.W.Frag}{mg:Str->Option Value}{base:Heap}{cT C cM cN:Addr}{W:WayF}
theorem idx_inj{u:List Str}{a b:Str}(ha:a∈u)(hb:b∈u)(h:idx u a=idx u b):a=b:=by
 have h1:=idx_at ha
 have h2:=idx_at hb
 rw[h,h2]at h1
 exact(Option.some.inj h1).symm
theorem addNs_le(u ns:List Str):u.length<=(addNs u ns).length:=by
 unfold addNs
 induction ns generalizing u with
 |nil=>exact Nat.le_refl _
 |cons z ns ih=>
  refine Nat.le_trans ?_ (ih (addN u z))
  unfold addN
  split
  ·exact Nat.le_refl _
  ·rw[List.length_append];simp
theorem MeOk.tb{u:List Str}{rr:Rws'}{md cr c t m:Nat}{a b:Str}{ea:Addr}(M:MeOk W u rr md cr a b)(hc:c<=200)(hm:m<=1000)
  (ht:t∈both (esR rr++[(idx (addNs u [a,b]) a,idx (addNs u [a,b]) b)]) (tlR rr++[none]) (idx (addNs u [a,b]) a) (idx (addNs u [a,b]) b) m):
  TbOk (addNs u [a,b]) (rr++[(ea,⟨md,(idx (addNs u [a,b]) a,idx (addNs u [a,b]) b),t⟩)]) (md+1) c:=by
 have O:=M.O
 have ha:a∈addNs u [a,b]:=mem_addNs.mpr (.inr (.head _))
 have hb:b∈addNs u [a,b]:=mem_addNs.mpr (.inr (.tail _ (.head _)))
 have hle:=addNs_le u [a,b]
 obtain⟨t1,t2,t3⟩:=both_mem.mp ht
 have one:∀x∈rr,∀y,y∈[(ea,(⟨md,(idx (addNs u [a,b]) a,idx (addNs u [a,b]) b),t⟩:Rw))]->y.2.no=md/\y.2.e=(idx (addNs u [a,b]) a,idx (addNs u [a,b]) b)/\y.2.hr=t:=fun x hx y hy=>by rw[List.mem_singleton.mp hy];exact⟨rfl,rfl,rfl⟩
 refine⟨?_,fun x hx=>?_,fun x hx=>?_,M.u60,?_,nodup_addNs O.und,fun z hz=>?_,?_,hc,fun x hx=>?_⟩
 ·rw[List.map_append,List.nodup_append]
  refine⟨O.nd,by simp,fun x hx y hy=>?_⟩
  obtain⟨r,hr,rfl⟩:=List.mem_map.mp hx
  rw[List.map_cons,List.map_nil,List.mem_singleton]at hy
  have:=O.lt r hr
  show r.2.no≠y
  have hy':y=md:=hy
  omega
 ·rcases List.mem_append.mp hx with h|h
  ·have:=O.lt x h;omega
  ·rw[List.mem_singleton.mp h];exact Nat.lt_succ_self _
 ·rcases List.mem_append.mp hx with h|h
  ·obtain⟨a1,a2,a3⟩:=O.en x h
   exact⟨by omega,by omega,a3⟩
  ·rw[List.mem_singleton.mp h]
   exact⟨idx_lt ha,idx_lt hb,fun z=>M.ne (idx_inj ha hb z)⟩
 ·rw[List.length_append]
  have:=M.r200
  show rr.length+1<=200
  assumption
 ·rcases mem_addNs.mp hz with h|h
  ·exact O.unm z h
  ·simp only[List.mem_cons,List.not_mem_nil,or_false]at h
   rcases h with rfl|rfl
   ·exact M.na
   ·exact M.nb
 ·rw[List.pairwise_append]
  refine⟨O.cl,List.pairwise_singleton _ _,fun x hx y hy=>?_⟩
  obtain⟨_,ye,yh⟩:=one x hx y hy
  intro hxy p hp hq
  rw[ye]at hp
  rw[yh]at hxy
  obtain⟨n,hn⟩:=List.getElem?_of_mem hx
  have hn1:=(List.getElem?_eq_some_iff.mp hn).1
  have us:Used (esR rr++[(idx (addNs u [a,b]) a,idx (addNs u [a,b]) b)]) (tlR rr++[none]) (esR rr++[(idx (addNs u [a,b]) a,idx (addNs u [a,b]) b)]).length p t:=by
   refine⟨n,by rw[List.length_append,esR_len];omega,?_,?_⟩
   ·rw[List.getElem?_append_left (by rw[tlR_len];exact hn1)]
    unfold tlR
    rw[List.getElem?_map,hn,<-hxy]
    rfl
   ·rw[List.getD_eq_getElem?_getD,List.getElem?_append_left (by rw[esR_len];exact hn1),<-List.getD_eq_getElem?_getD,esR_get,hn]
    exact hq
  rcases hp with rfl|rfl
  ·exact t2 us
  ·exact t3 us
 ·rcases List.mem_append.mp hx with h|h
  ·exact O.hr x h
  ·rw[List.mem_singleton.mp h]
   show t<1000
   omega
abbrev sMe:Stmt:=inClass (top 58) 1
abbrev nMe:List Str:=["self","one","other","places","ends","net","tints","crowd","steps","number"]
theorem scMe:FnScope nMe ["self","one","other"] (defScope sMe):=⟨rfl,rfl,rfl,by decide+kernel,rfl,by decide+kernel,by decide+kernel⟩
inductive spMe(cT C:Addr)(W:WayF)(vs:List V)(H:Hp)(Q:VK)(_z3:XK):Prop
 |mk (t:Addr) (a b:Str) (u:List Str) (rr:Rws') (md cr:Nat) (_:vs=[.ref t,.str a,.str b]) (_:TabZ cT C H t u rr md cr) (_:MeOk W u rr md cr a b) (_:∀H' p x c mv,Keeps H H'->TabZ cT C H' t (addNs u [a,b]) (rr++[x]) (md+1) c->TbOk (addNs u [a,b]) (rr++[x]) (md+1) c->x.2.no=md->x.2.e=(idx (addNs u [a,b]) a,idx (addNs u [a,b]) b)->H' p=some (.tup [.int (md:Int),mv])->Q (.ref p) H')
theorem ok_me{f:Addr}{fd:FuncData}{k1 k2:Tok}(F:Fun K "meet" "Table.meet" sMe f fd)(T:Bi mg)(S:TcC K cT)(m60:mg "MOST_POINTS"=some (.int 60 k1))(m200:mg "MOST_TIES"=some (.int 200 k2))(FN:FnE P w K mg base "is_name" ["thing"] 8 spNm2)(FP:FnE P w K mg base "places_with" ["places","names"] 8 spPw)(FMo:FnE P w K mg base "most_of" ["net"] 8 spMo)
  (MP:MeE P w K mg base C "put" ["self","net","tints","tie","many"] 8 (spPutW W C))(MN:MeE P w K mg base C "needed" ["self","most"] 8 (spNdW W))(FB:FnE P w K mg base "behind" ["net","tints","steps"] 8 spBh)(MM:MeE P w K mg base cT "moved_to" ["self","tints"] 8 (spMv cT)):FnOk P w K mg base CX0 9 f fd ["self","one","other"] (spMe cT C W):=by
 refine F.ok scMe (fun vs H Q E h=>?_) (fun cdv A outer s H vs Q E hr h=>?_)
 ·obtain⟨t,a,b,u,rr,md,cr,rfl,_⟩:=h
  rfl
 ·obtain⟨t,a,b,u,rr,md,cr,rfl,⟨dx,wy,dw,dp,dt,dg,Z0⟩,M,q⟩:=h
  have hu:=hu_of hr
  have O:=M.O
  refine⟨_,pss_cons (ps_if (PW.pt (pw_or (pt_not (pt_val (pe_fc FN hr (pa_c (pv 1) pa_nil)))) (pw_or (pt_not (pt_val (pe_fc FN hr (pa_c (pv 2) pa_nil)))) (pw_or1 (pt_cmpR op_eq (pv 1) (pv 2) (nomark _)))))) pss_never pss_nil)
   (pss_cons (ps_set (i:=3) scMe.nd rfl (Or.inl rfl) (pe_fc FP hr (pa_c (pe_fld (pv 0) rfl) (pa_c (pe_tupS (pa_c (pv 1) (pa_c (pv 2) pa_nil))) pa_nil))))
   (pss_cons (ps_if (pt_cmpR op_gt (pe_callB call_lenD rfl T.len bLen (pa_c (pv 3) pa_nil)) (pe_glob (v:= .int 60) rfl m60 ⟨_,rfl⟩) (nomark _)) pss_never pss_nil)
   (pss_cons (ps_if (pt_cmpR op_ge (pe_callB call_lenD rfl T.len bLen (pa_c (pe_fld (pv 0) rfl) pa_nil)) (pe_glob (v:= .int 200) rfl m200 ⟨_,rfl⟩) (nomark _)) pss_never pss_nil)
   (pss_cons (ps_set (i:=4) scMe.nd rfl (Or.inl rfl) (pe_tupS (pa_c (pe_dget hu (pv 3) (pv 1) (fun _ _=>rfl)) (pa_c (pe_dget hu (pv 3) (pv 2) (fun _ _=>rfl)) pa_nil))))
   (pss_cons (ps_set (i:=5) scMe.nd rfl (Or.inl rfl) (pe_tupS (pa_c (pe_callB call_lenD rfl T.len bLen (pa_c (pv 3) pa_nil)) (pa_c (pe_op op_catTS (pe_callTy (call_tupleV hr) rfl T.tuple bTuple (pa_c (pe_bm0 PySem.F.plainAttrs_dict PySem.F.slot_dict_values PySem.F.type_dict_values mt_values (pe_fld (pv 0) rfl)) pa_nil)) (pe_tupS (pa_c (pv 4) pa_nil))) pa_nil))))
   (pss_cons (ps_set (i:=6) scMe.nd rfl (Or.inl rfl) (pe_op op_catTS (pe_callTy (call_tupleV hr) rfl T.tuple bTuple (pa_c (pe_bm0 PySem.F.plainAttrs_dict PySem.F.slot_dict_values PySem.F.type_dict_values mt_values (pe_fld (pv 0) rfl)) pa_nil)) (pe_tupS (pa_c pe_non pa_nil))))
   (pss_cons (ps_set (i:=7) scMe.nd rfl (Or.inl rfl) (pe_callB (call_max2 rfl) rfl T.max bMax (pa_c (pe_fld (pv 0) rfl) (pa_c (pe_fc FMo hr (pa_c (pv 5) pa_nil)) pa_nil))))
   (pss_cons (ps_set (i:=8) scMe.nd rfl (Or.inl rfl) (pe_me MP hr (pe_fld (pv 0) rfl) (pa_c (pv 5) (pa_c (pv 6) (pa_c (pe_callB call_lenD rfl T.len bLen (pa_c (pe_fld (pv 0) rfl) pa_nil)) (pa_c (pe_me MN hr (pe_fld (pv 0) rfl) (pa_c (pv 7) pa_nil)) pa_nil))))))
   (pss_cons (ps_set (i:=9) scMe.nd rfl (Or.inl rfl) (pe_fld (pv 0) rfl))
   (pss_cons (ps_fld (pv 0) (pv 3) rfl)
   (pss_cons (ps_fld (pv 0) (pv 7) rfl)
   (pss_cons (ps_fld (pv 0) (pe_op op_add (pv 9) pe_int) rfl)
   (pss_cons (ps_dput hu (pe_fld (pv 0) rfl) (pv 9) (pv 4) rfl)
   (pss_one (ps_ret (pe_tupS (pa_c (pv 9) (pa_c (pe_me MM hr (pv 0) (pa_c (pe_fc FB hr (pa_c (pv 5) (pa_c (pv 6) (pa_c (pv 8) pa_nil)))) pa_nil)) pa_nil)))))))))))))))))),?_⟩
  have l1:=(name_ok M.na).2.1
  have l2:=(name_ok M.nb).2.1
  have h60:=M.u60
  have h200:=M.r200
  have c200:=O.c200
  have u60:=O.u60
  have ha:a∈addNs u [a,b]:=mem_addNs.mpr (.inr (.head _))
  have hb:b∈addNs u [a,b]:=mem_addNs.mpr (.inr (.tail _ (.head _)))
  refine⟨_,rfl,.str a,rfl,.str a,(by show a.length<=100000;omega),fun H1 s1=>⟨_,rfl,?_⟩⟩
  rw[show nameV (.str a)=true from M.na]
  refine iteF ⟨_,rfl,.str b,rfl,.str b,(by show b.length<=100000;omega),fun H2 s2=>⟨_,rfl,?_⟩⟩
  rw[show nameV (.str b)=true from M.nb]
  refine iteF ⟨_,rfl,_,rfl,rfl,_,rfl,?_⟩
  refine ite2 (fun z=>absurd (V.str.inj (of_decide_eq_true z)) M.ne) (fun _=>?_)
  have s12:=Same.trans s1 s2
  have Z2:=Z0.same s12
  refine⟨_,rfl,t,cT,dx,_,_,rfl,Z2.t,S.cl,S.n2,rfl,_,rfl,_,rfl,rfl,fun tp H3 s3 htp=>?_⟩
  have s13:=Same.trans s12 s3
  have Z3:=Z0.same s13
  refine⟨dp,tp,u,[a,b],rfl,Z3.p,htp,by show u.length+2<=1000;omega,fun H4 pl s4 npl hpl=>?_⟩
  have s14:=Same.trans s13 s4
  have Z4:=Z0.same s14
  refine⟨_,rfl,pl,_,rfl,hpl,_,_,rfl,rfl,_,rfl,?_⟩
  refine ite2 (fun z=>absurd (of_decide_eq_true z) (by rw[plc_len];omega)) (fun _=>?_)
  refine⟨_,rfl,t,cT,dx,_,_,rfl,Z4.t,S.cl,S.n3,rfl,dt,_,rfl,Z4.d,_,_,rfl,rfl,_,rfl,?_⟩
  refine ite2 (fun z=>absurd (of_decide_eq_true z) (by rw[rT_len];omega)) (fun _=>?_)
  have ga:=DGet.k (k:=Sum.inr a) hpl
  rw[plc_in ha,Nat.zero_add]at ga
  have gb:=DGet.k (k:=Sum.inr b) hpl
  rw[plc_in hb,Nat.zero_add]at gb
  refine⟨_,rfl,_,rfl,pl,_,rfl,ga,_,rfl,_,rfl,pl,_,rfl,gb,rfl,fun ea H5 s5 hea=>?_⟩
  obtain⟨I,hI⟩:∃I,idx (addNs u [a,b]) a=I:=⟨_,rfl⟩
  obtain⟨J,hJ⟩:∃J,idx (addNs u [a,b]) b=J:=⟨_,rfl⟩
  rw[hI,hJ]at hea
  have s15:=Same.trans s14 s5
  have Z5:=Z0.same s15
  have hpl5:=s5 _ _ hpl
  refine⟨_,rfl,pl,_,rfl,hpl5,_,rfl,t,cT,dx,_,_,rfl,Z5.t,S.cl,S.n3,rfl,.inr (.inr (.inl ⟨rfl,.inl ⟨_,Z5.d⟩⟩)),dt,_,rfl,rfl,Z5.d,fun v hv=>?_⟩
  have sv:=same_new (o:=ValE v dt) hv
  refine⟨v,dt,rT rr,rfl,upd_same,sv _ _ Z5.d,by rw[rT_len];omega,fun q1 H6 s6 hq1=>?_⟩
  rw[rT_snd]at hq1
  have s56:=Same.trans sv s6
  refine⟨_,rfl,rfl,fun o1 H7 s7 ho1=>⟨q1,o1,_,_,rfl,rfl,s7 _ _ hq1,ho1,by rw[List.length_map];show rr.length+1<=_;omega,fun qa H8 s8 hqa=>⟨rfl,fun np H9 s9 hnp=>?_⟩⟩⟩
  have s59:Same H5 H9:=Same.trans s56 (Same.trans s7 (Same.trans s8 s9))
  have Z9:=Z5.same s59
  have hqa9:=s9 _ _ hqa
  rw[plc_len]at hnp
  refine⟨_,rfl,t,cT,dx,_,_,rfl,Z9.t,S.cl,S.n4,rfl,.inr (.inr (.inl ⟨rfl,.inl ⟨_,Z9.g⟩⟩)),dg,_,rfl,rfl,Z9.g,fun v2 hv2=>?_⟩
  have sv2:=same_new (o:=ValE v2 dg) hv2
  refine⟨v2,dg,rG rr,rfl,upd_same,sv2 _ _ Z9.g,by rw[rG_len];omega,fun g1 Ha sa hg1=>?_⟩
  rw[rG_snd]at hg1
  refine⟨rfl,fun o2 Hb sb ho2=>⟨g1,o2,_,_,rfl,rfl,sb _ _ hg1,ho2,by rw[List.length_map];show rr.length+1<=_;omega,fun tr Hc sc htr=>?_⟩⟩
  have s9c:Same H9 Hc:=Same.trans (Same.trans sv2 sa) (Same.trans sb sc)
  have sHc:Same H Hc:=Same.trans s15 (Same.trans s59 s9c)
  have Zc:=Z9.same s9c
  have hpc:=s9c _ _ (s59 _ _ hpl5)
  have hec:=s9c _ _ (s59 _ _ hea)
  have hnc:=s9c _ _ hnp
  have hqc:=s9c _ _ hqa9
  have htv:(rr.map fun x=>V.int (x.2.hr:Int))++[V.non]=tv (tlR rr++[none]):=by
   show _=List.map tN _
   rw[List.map_append,<-tvR]
   rfl
  rw[htv]at htr
  have hokR:=M.ok
  have hrm:=M.room
  rw[hI,hJ]at hokR hrm
  have hIlt:I<(addNs u [a,b]).length:=hI▸idx_lt ha
  have hJlt:J<(addNs u [a,b]).length:=hJ▸idx_lt hb
  have hIJ:I≠J:=fun z=>M.ne (idx_inj ha hb (by rw[hI,hJ];exact z))
  have hle:=addNs_le u [a,b]
  have N:NetZ Hc np (addNs u [a,b]).length qa ((rr.map fun x=>V.ref x.1)++[V.ref ea]) (esR rr++[(I,J)]):=by
   refine⟨hnc,hqc,by rw[List.length_append,List.length_append,List.length_map,esR_len];rfl,fun i w hw=>?_,by rw[List.length_append,esR_len];show rr.length+1<=200;omega,h60,fun e he=>?_⟩
   ·by_cases hi:i<rr.length
    ·rw[List.getElem?_append_left (by rw[List.length_map];exact hi),List.getElem?_map,List.getElem?_eq_getElem hi]at hw
     cases hw
     refine⟨rr[i].1,rfl,?_⟩
     rw[List.getD_eq_getElem?_getD,List.getElem?_append_left (by rw[esR_len];exact hi),<-List.getD_eq_getElem?_getD,esR_get,List.getElem?_eq_getElem hi]
     exact Zc.e _ (List.getElem_mem hi)
    ·have hi2:=(List.getElem?_eq_some_iff.mp hw).1
     rw[List.length_append,List.length_map,List.length_singleton]at hi2
     have ei:i=rr.length:=by omega
     subst ei
     have hw':((rr.map fun x=>V.ref x.1)++[V.ref ea])[(rr.map fun x=>V.ref x.1).length]?=some w:=by rw[List.length_map];exact hw
     rw[List.getElem?_append_right (Nat.le_refl _),Nat.sub_self]at hw'
     cases hw'
     refine⟨ea,rfl,?_⟩
     have:=es_last (esR rr) (I,J)
     rw[esR_len]at this
     rw[this]
     exact hec
   ·rcases List.mem_append.mp he with h|h
    ·unfold esR at h
     obtain⟨x,hx,rfl⟩:=List.mem_map.mp h
     obtain⟨a1,a2,a3⟩:=O.en x hx
     exact⟨by omega,by omega,a3⟩
    ·rw[List.mem_singleton.mp h]
     exact⟨hIlt,hJlt,hIJ⟩
  have hEl:(esR rr++[(I,J)]).length=rr.length+1:=by rw[List.length_append,esR_len];rfl
  have hTl:(tlR rr++[none]).length=rr.length+1:=by rw[List.length_append,tlR_len];rfl
  have hgD:(esR rr++[(I,J)]).getD rr.length (0,0)=(I,J):=by have:=es_last (esR rr) (I,J);rw[esR_len]at this;exact this
  refine⟨_,rfl,t,cT,dx,_,_,rfl,Zc.t,S.cl,S.n6,rfl,_,rfl,np,_,qa,_,_,rfl,N,fun Hd Mx sd hMx=>⟨_,_,rfl,?_⟩⟩
  obtain⟨hM0,hM1⟩:=most_nn hMx
  rw[hEl]at hM1
  obtain⟨c,hc⟩:∃c:Nat,(if Mx>(cr:Int)then Mx else(cr:Int))=(c:Int):=⟨(if Mx>(cr:Int)then Mx else(cr:Int)).toNat,by split<;>omega⟩
  dsimp only[gName]
  rw[hc]
  have hcM:Mx<=(c:Int):=by rw[<-hc];split<;>omega
  have hc3:(c:Int)<=200:=by rw[<-hc];split<;>omega
  have hc2:c<=200:=by omega
  have Zd:=Zc.same sd
  obtain⟨m,hm⟩:∃m:Nat,W.nd (c:Int)=(m:Int):=⟨(W.nd (c:Int)).toNat,by have:=(W.nn (c:Int) (by omega)).1;omega⟩
  have hm2:m<=1000:=by have:=(W.nn (c:Int) (by omega)).2;omega
  have mI:=most_le hMx hIlt
  have mJ:=most_le hMx hJlt
  rw[hEl]at mI mJ
  have hroom:=hrm (c:Int) (by omega) (by omega)
  rw[hm]at hroom
  have R:RmW W Hd np tr (addNs u [a,b]).length qa ((rr.map fun x=>V.ref x.1)++[V.ref ea]) (esR rr++[(I,J)]) (tlR rr++[none]) rr.length m:=by
   refine⟨N.same sd,sd _ _ htr,by rw[hEl,hTl],by omega,?_,hm2,hokR,fun M' h'=>?_,?_⟩
   ·rw[List.getElem?_append_right (by rw[tlR_len];exact Nat.le_refl _),tlR_len,Nat.sub_self]
    rfl
   ·rw[hMx.uniq h']at hcM
    rw[<-hm]
    exact W.up _ _ hcM
   ·have hk:rr.length<(esR rr++[(I,J)]).length:=by omega
    obtain⟨t0,x1,x2,x3⟩:=free_two (tl:=tlR rr++[none]) (m:=m) hk (by rw[List.getElem?_append_right (by rw[tlR_len];exact Nat.le_refl _),tlR_len,Nat.sub_self];rfl) (by rw[hgD,hEl];show My.dg _ _ I+My.dg _ _ J<=m+1;omega)
    exact List.length_pos_of_mem (both_mem.mpr ⟨x1,x2,x3⟩)
  refine⟨_,rfl,t,cT,dx,_,_,rfl,Zd.t,S.cl,S.n1,rfl,wy,dw,_,rfl,Zd.w,rfl,_,rfl,_,rfl,_,rfl,t,cT,dx,_,_,rfl,Zd.t,S.cl,S.n3,rfl,dt,_,rfl,Zd.d,_,rfl,t,cT,dx,_,_,rfl,Zd.t,S.cl,S.n1,rfl,wy,dw,_,rfl,Zd.w,rfl,_,rfl,wy,(c:Int),rfl,by omega,?_⟩
  rw[hm,rT_len]
  refine⟨wy,np,tr,_,qa,_,_,_,rr.length,m,dw,rfl,Zd.w,R,fun He l us tn se hl hus htn=>?_⟩
  rw[hgD]at htn
  have Ze:=Zd.same se
  have sHe:Same H He:=Same.trans sHc (Same.trans sd se)
  have hpe:=se _ _ (sd _ _ hpc)
  obtain⟨hd1,hd2,hd3⟩:=both_mem.mp htn
  have DT:DoT He np tr (addNs u [a,b]).length qa ((rr.map fun x=>V.ref x.1)++[V.ref ea]) (esR rr++[(I,J)]) (tlR rr++[none]) rr.length tn:=by
   have Re:=R.same se
   refine⟨Re.N,Re.hR,Re.len,⟨Re.hk,by omega⟩,clean_set (cleanR O.cl none (I,J) rfl) Re.len Re.hk (by rw[hgD];exact hd2) (by rw[hgD];exact hd3)⟩
  refine⟨_,rfl,t,cT,dx,_,_,rfl,Ze.t,S.cl,S.n5,rfl,?_⟩
  refine⟨_,rfl,_,rfl,t,cT,dx,_,rfl,Ze.t,S.cl,S.n2,(by show 6<1000;decide),?_⟩
  refine⟨_,rfl,_,rfl,t,cT,dx,_,rfl,upd_same,S.cl,S.n6,(by show 6<1000;decide),?_⟩
  rw[upd_upd]
  refine⟨_,rfl,_,_,rfl,rfl,_,rfl,t,cT,dx,_,rfl,upd_same,S.cl,S.n5,(by show 6<1000;decide),?_⟩
  rw[upd_upd]
  have ft:putF "made" (.int ((md:Int)+1)) (putF "crowd" (.int (c:Int)) (putF "places" (.ref pl) (flds wy dp dt dg md cr)))=flds wy pl dt dg (md+1) c:=by
   show _=[(("way":Str),V.ref wy),("places",.ref pl),("ties",.ref dt),("given",.ref dg),("made",.int ((md+1:Nat):Int)),("crowd",.int (c:Int))]
   rw[show((md+1:Nat):Int)=(md:Int)+1 from by omega]
   rfl
  rw[ft]
  have tne:∀b o,He b=some o->(∀C' D' f,o≠.ins C' D' f)->b≠t:=fun b o e n z=>by rw[z,Ze.t]at e;exact n _ _ _ (Option.some.inj e).symm
  have kf:∀b o,b≠t->He b=some o->(upd He t (.ins cT dx (flds wy pl dt dg (md+1) c))) b=some o:=fun b o n e=>by rw[upd_ne n];exact e
  have tf:(upd He t (.ins cT dx (flds wy pl dt dg (md+1) c))) t=some (.ins cT dx (flds wy pl dt dg (md+1) c)):=upd_same
  generalize upd He t (.ins cT dx (flds wy pl dt dg (md+1) c))=Hf at kf tf
  have df:Hf dt=some (.dK (rT rr)):=kf _ _ (tne _ _ Ze.d fun _ _ _=>nofun) Ze.d
  refine⟨_,rfl,_,rfl,t,cT,dx,_,_,rfl,tf,S.cl,S.n3,rfl,_,rfl,dt,_,rfl,DPut.k (k:=Sum.inl (md:Int)) df (by rw[rT_len,sizeLine_eq];omega),?_⟩
  have tnd:t≠dt:=fun z=>by rw[z,df]at tf;cases tf
  rw[show putK (rT rr) (Sum.inl (md:Int)) (V.ref ea)=rT (rr++[(ea,⟨md,(I,J),tn⟩)])from kvR_put (f:=fun x=>V.ref x.1) (y:=(ea,⟨md,(I,J),tn⟩)) O.lt]
  have kg:∀b o,b≠t->b≠dt->He b=some o->(upd Hf dt (.dK (rT (rr++[(ea,⟨md,(I,J),tn⟩)])))) b=some o:=fun b o n n2 e=>by rw[upd_ne n2];exact kf b o n e
  have tg:(upd Hf dt (.dK (rT (rr++[(ea,⟨md,(I,J),tn⟩)])))) t=some (.ins cT dx (flds wy pl dt dg (md+1) c)):=by rw[upd_ne tnd];exact tf
  have dG:(upd Hf dt (.dK (rT (rr++[(ea,⟨md,(I,J),tn⟩)])))) dt=some (.dK (rT (rr++[(ea,⟨md,(I,J),tn⟩)]))):=upd_same
  generalize upd Hf dt (.dK (rT (rr++[(ea,⟨md,(I,J),tn⟩)])))=Hg at kg tg dG
  have dne:∀b o,He b=some o->(∀ks,o≠.dK ks)->b≠dt:=fun b o e n z=>by rw[z,Ze.d]at e;exact n _ (Option.some.inj e).symm
  have kt:∀b xs,He b=some (.tup xs)->Hg b=some (.tup xs):=fun b xs e=>kg b _ (tne _ _ e fun _ _ _=>nofun) (dne _ _ e fun _=>nofun) e
  have kl:∀b xs,He b=some (.lst xs)->Hg b=some (.lst xs):=fun b xs e=>kg b _ (tne _ _ e fun _ _ _=>nofun) (dne _ _ e fun _=>nofun) e
  have gG:Hg dg=some (.dK (rG rr)):=kg _ _ (tne _ _ Ze.g fun _ _ _=>nofun) (Ne.symm Ze.tg) Ze.g
  have wt:wy≠t:=fun z=>by
   have h1:=Ze.w
   rw[z,Ze.t]at h1
   cases h1
  have plH:H pl=none:=s13.none npl
  have pt2:pl≠dt:=fun z=>by rw[z,Z0.d]at plH;cases plH
  have DG:DoT Hg np tr (addNs u [a,b]).length qa ((rr.map fun x=>V.ref x.1)++[V.ref ea]) (esR rr++[(I,J)]) (tlR rr++[none]) rr.length tn:=
   ⟨⟨kt _ _ DT.N.e1,kt _ _ DT.N.e2,DT.N.len,fun i v h=>let⟨x,e1,e2⟩:=DT.N.tie i v h;⟨x,e1,kt _ _ e2⟩,DT.N.l200,DT.N.n60,DT.N.ok⟩,kt _ _ DT.hR,DT.len,DT.ok,DT.cl⟩
  have r2l:(rr++[(ea,(⟨md,(I,J),tn⟩:Rw))]).length<=200:=by rw[List.length_append];show rr.length+1<=200;omega
  have OK:=M.tb (ea:=ea) (t:=tn) (m:=m) hc2 hm2 (by rw[hI,hJ];exact htn)
  rw[hI,hJ]at OK
  have kH:Keeps H Hg:=fun b o e ko=>kg b o (fun z=>by rw[z,Z0.t]at e;cases e;exact ko) (fun z=>by rw[z,Z0.d]at e;cases e;exact ko) (sHe _ _ e)
  refine⟨_,rfl,_,rfl,t,dx,_,rfl,tg,rfl,_,rfl,_,rfl,_,rfl,np,tr,l,us,_,qa,_,_,_,rr.length,tn,rfl,DG,kl _ _ hl,kt _ _ hus,fun Hh z sh hz=>?_⟩
  have ets:(tlR rr++[none]).set rr.length (some tn)=tlR (rr++[(ea,(⟨md,(I,J),tn⟩:Rw))]):=tlR_set rr (ea,⟨md,(I,J),tn⟩)
  rw[ets,tvR]at hz
  refine⟨t,z,dx,wy,pl,dt,dg,rr,_,md+1,c,rfl,sh _ _ tg,sh _ _ dG,sh _ _ gG,Z0.tg,hz,r2l,OK.nd,fun Hi mv g2 mvs ki ti ng2 gi hmv=>⟨rfl,fun p Hj sj hp=>?_⟩⟩
  have ki2:∀b o,b≠t->Hg b=some o->Hj b=some o:=fun b o n e=>sj _ _ (ki b o n (sh _ _ e))
  refine q Hj p (ea,⟨md,(I,J),tn⟩) c (.ref mv) (fun b o e ko=>ki2 b o (fun z=>by rw[z,Z0.t]at e;cases e;exact ko) (kH b o e ko)) ⟨dx,wy,dw,pl,dt,g2,sj _ _ ti,ki2 _ _ wt (kg _ _ wt (dne _ _ Ze.w fun _=>nofun) Ze.w),ki2 _ _ ?_ ?_,ki2 _ _ (Ne.symm tnd) dG,sj _ _ gi,?_,pt2,?_,fun x hx=>?_⟩ OK rfl (by rw[hI,hJ]) hp
  ·intro z;rw[z,Z0.t]at plH;cases plH
  ·exact kg _ _ (fun z=>by rw[z,Z0.t]at plH;cases plH) pt2 hpe
  ·intro z;rw[<-z,sh _ _ dG]at ng2;cases ng2
  ·intro z
   have h1:=sh _ _ (kg _ _ (fun z=>by rw[z,Z0.t]at plH;cases plH) pt2 hpe)
   rw[z,ng2]at h1
   cases h1
  ·have hx':He x.1=some (.tup [.int (x.2.e.1:Int),.int (x.2.e.2:Int)]):=by
    rcases List.mem_append.mp hx with h|h
    ·exact Ze.e x h
    ·rw[List.mem_singleton.mp h]
     exact se _ _ (sd _ _ hec)
   exact ki2 _ _ (tne _ _ hx' fun _ _ _=>nofun) (kt _ _ hx')
end
section
variable{P:Program}{w:World}{K:PySem.W.Frag}{mg:Str->Option Value}{base:Heap}{cT C cM cN cG:Addr}
inductive spMeN(cN:Addr)(vs:List V)(H:Hp)(_z2:VK)(E:XK):Prop
 |mk (t:Addr) (x y:V) (_:vs=[.ref t,x,y]) (_:Kn H x) (_:Kn H y) (_:smallV x) (_:smallV y) (_:(nameV x=false\/nameV y=false\/x=y)) (_:∀H',Same H H'->E (.ref cN) none H')
theorem ok_meN{f:Addr}{fd:FuncData}(F:Fun K "meet" "Table.meet" sMe f fd)(FN:FnE P w K mg base "is_name" ["thing"] 8 spNm2)(X:XcN K mg "NoName" cN):FnOk P w K mg base (RX.CXe P w) 9 f fd ["self","one","other"] (spMeN cN):=by
 obtain⟨D,c⟩:=X.ex
 refine RX.funX_ok F scMe (fun vs H Q E h=>?_) (fun cdv A outer s H vs Q E hr h=>?_)
 ·obtain⟨t,x,y,rfl,_⟩:=h
  rfl
 ·obtain⟨t,x,y,rfl,kx,ky,sx,sy,hb,q⟩:=h
  refine⟨_,pss_cons (ps_if (PT.nox (PW.pt (pw_or (pt_not (pt_val (pe_fc FN hr (pa_c (pv 1) pa_nil)))) (pw_or (pt_not (pt_val (pe_fc FN hr (pa_c (pv 2) pa_nil)))) (pw_or1 (pt_cmpR op_eq (pv 1) (pv 2) (nomark _))))))) (pss_one (RX.ps_raise0 c X.cn X.kp hr rfl X.hm rfl rfl rfl (fun _ _ h=>h))) pss_nil) pss_never,?_⟩
  refine⟨_,rfl,x,rfl,kx,sx,fun H1 s1=>⟨_,rfl,?_⟩⟩
  cases ex:nameV x with
  |false=>exact iteT (iteT (q H1 s1))
  |true=>
   refine iteF ⟨_,rfl,y,rfl,ky.same s1,sy,fun H2 s2=>⟨_,rfl,?_⟩⟩
   cases ey:nameV y with
   |false=>exact iteT (iteT (q H2 (Same.trans s1 s2)))
   |true=>
    have e:x=y:=by
     rcases hb with h|h|h
     ·rw[ex]at h;cases h
     ·rw[ey]at h;cases h
     ·exact h
    subst e
    cases x with
    |str z=>
     refine iteF ⟨_,rfl,_,rfl,rfl,_,rfl,?_⟩
     rw[decide_eq_true rfl]
     exact iteT (q H2 (Same.trans s1 s2))
    |_=>cases ex
inductive spMeG(cT C cG:Addr)(vs:List V)(H:Hp)(_z2:VK)(E:XK):Prop
 |mk (t:Addr) (a b:Str) (u:List Str) (rr:Rws') (md cr:Nat) (m:Int) (_:vs=[.ref t,.str a,.str b]) (_:TabZ cT C H t u rr md cr) (_:u.length<=60) (_:nameB a=true) (_:nameB b=true) (_:a≠b) (_:((60<(addNs u [a,b]).length/\m=60)\/((addNs u [a,b]).length<=60/\200<=rr.length/\m=200))) (_:∀H' dx,Same H H'->H' dx=none->E (.ref cG) (some dx) (upd H' dx (.xd [("most",.int m)])))
theorem ok_meG{f:Addr}{fd:FuncData}{k1 k2:Tok}(F:Fun K "meet" "Table.meet" sMe f fd)(T:Bi mg)(S:TcC K cT)(m60:mg "MOST_POINTS"=some (.int 60 k1))(m200:mg "MOST_TIES"=some (.int 200 k2))(FN:FnE P w K mg base "is_name" ["thing"] 8 spNm2)(FP:FnE P w K mg base "places_with" ["places","names"] 8 spPw)(G:GrF P w K mg base "TooGreat" "most" cG):FnOk P w K mg base (RX.CXe P w) 9 f fd ["self","one","other"] (spMeG cT C cG):=by
 obtain⟨D,fI,fdI,c,hi,hfn,FI,hb⟩:=G.ex
 refine RX.funX_ok (k:=8) F scMe (fun vs H Q E h=>?_) (fun cdv A outer s H vs Q E hr h=>?_)
 ·obtain⟨t,a,b,u,rr,md,cr,m,rfl,_⟩:=h
  rfl
 ·obtain⟨t,a,b,u,rr,md,cr,m,rfl,⟨dx,wy,dw,dp,dt,dg,Z0⟩,u60,na,nb,ne,hg,q⟩:=h
  have hr2:Room 2 _:=hr.mono (by omega)
  refine⟨_,pss_cons (ps_if (PT.nox (PW.pt (pw_or (pt_not (pt_val (pe_fc FN hr (pa_c (pv 1) pa_nil)))) (pw_or (pt_not (pt_val (pe_fc FN hr (pa_c (pv 2) pa_nil)))) (pw_or1 (pt_cmpR op_eq (pv 1) (pv 2) (nomark _))))))) pss_never pss_nil)
   (pss_cons (PS.nox (ps_set (i:=3) scMe.nd rfl (Or.inl rfl) (pe_fc FP hr (pa_c (pe_fld (pv 0) rfl) (pa_c (pe_tupS (pa_c (pv 1) (pa_c (pv 2) pa_nil))) pa_nil)))))
   (pss_cons (ps_if (PT.nox (pt_cmpR op_gt (pe_callB call_lenD rfl T.len bLen (pa_c (pv 3) pa_nil)) (pe_glob (v:= .int 60) rfl m60 ⟨_,rfl⟩) (nomark _))) (pss_one (RX.ps_raiseF c hi hfn FI hr2 hb rfl G.g (pa_c (pe_glob (v:= .int 60) rfl m60 ⟨_,rfl⟩) pa_nil) rfl rfl rfl (fun _ _ h=>h))) pss_nil)
   (pss_cons (ps_if (PT.nox (pt_cmpR op_ge (pe_callB call_lenD rfl T.len bLen (pa_c (pe_fld (pv 0) rfl) pa_nil)) (pe_glob (v:= .int 200) rfl m200 ⟨_,rfl⟩) (nomark _))) (pss_one (RX.ps_raiseF c hi hfn FI hr2 hb rfl G.g (pa_c (pe_glob (v:= .int 200) rfl m200 ⟨_,rfl⟩) pa_nil) rfl rfl rfl (fun _ _ h=>h))) pss_nil)
   pss_never))),?_⟩
  have l1:=(name_ok na).2.1
  have l2:=(name_ok nb).2.1
  refine⟨_,rfl,.str a,rfl,.str a,(by show a.length<=100000;omega),fun H1 s1=>⟨_,rfl,?_⟩⟩
  rw[show nameV (.str a)=true from na]
  refine iteF ⟨_,rfl,.str b,rfl,.str b,(by show b.length<=100000;omega),fun H2 s2=>⟨_,rfl,?_⟩⟩
  rw[show nameV (.str b)=true from nb]
  refine iteF ⟨_,rfl,_,rfl,rfl,_,rfl,?_⟩
  refine ite2 (fun z=>absurd (V.str.inj (of_decide_eq_true z)) ne) (fun _=>?_)
  have s12:=Same.trans s1 s2
  have Z2:=Z0.same s12
  refine⟨_,rfl,t,cT,dx,_,_,rfl,Z2.t,S.cl,S.n2,rfl,_,rfl,_,rfl,rfl,fun tp H3 s3 htp=>?_⟩
  have s13:=Same.trans s12 s3
  have Z3:=Z0.same s13
  refine⟨dp,tp,u,[a,b],rfl,Z3.p,htp,by show u.length+2<=1000;omega,fun H4 pl s4 npl hpl=>?_⟩
  have s14:=Same.trans s13 s4
  have Z4:=Z0.same s14
  refine⟨_,rfl,pl,_,rfl,hpl,_,_,rfl,rfl,_,rfl,?_⟩
  rcases hg with⟨h,rfl⟩|⟨h,h2,rfl⟩
  ·refine ite2 (fun _=>?_) (fun z=>absurd (decide_eq_true (by rw[plc_len];omega)) z)
   exact⟨_,rfl,fun dx hdx=>q H4 dx s14 hdx⟩
  ·refine ite2 (fun z=>absurd (of_decide_eq_true z) (by rw[plc_len];omega)) (fun _=>?_)
   refine⟨_,rfl,t,cT,dx,_,_,rfl,Z4.t,S.cl,S.n3,rfl,dt,_,rfl,Z4.d,_,_,rfl,rfl,_,rfl,?_⟩
   refine ite2 (fun _=>?_) (fun z=>absurd (decide_eq_true (by rw[rT_len];omega)) z)
   exact⟨_,rfl,fun dx hdx=>q H4 dx s14 hdx⟩
end
end My
namespace L2
open PySem
section
variable{P:Program}{w:World}{K:PySem.W.Frag}{mg:Str->Option Value}{base:Heap}{k:Nat}{f:Addr}{fd:FuncData}{ps:List Str}{sp sp':Sp}
theorem FnOk.all{α:Type}{CX:CXT}{sp:α->Sp}(F:∀a,FnOk P w K mg base CX k f fd ps (sp a)):FnOk P w K mg base CX k f fd ps (fun vs H Q E=>∃a,sp a vs H Q E):=
 ⟨fun vs H Q E⟨a,h⟩=>(F a).len vs H Q E h,fun A outer s H args us vs Q E hr e0 hb r⟨a,h⟩=>(F a).run A outer s H args us vs Q E hr e0 hb r h⟩
end
end L2
namespace My
open PySem L2 Tx
structure Kinds(K:PySem.W.Frag)(mg:Str->Option Value)(C:Addr)(bN bM bG:Bool):Prop where
 ex:∃n1 n2 n3 n4 n5 n6 n7 n8 cn cm cg:Addr,mg "NoText"=some (.ref n1)/\mg "NoStep"=some (.ref n2)/\mg "NoTie"=some (.ref n3)/\mg "NotAlike"=some (.ref n4)/\mg "NotClean"=some (.ref n5)/\mg "NotPlain"=some (.ref n6)/\mg "NotTwoSided"=some (.ref n7)/\
  mg "TooFew"=some (.ref n8)/\mg "NoName"=some (.ref cn)/\mg "NoMeeting"=some (.ref cm)/\mg "TooGreat"=some (.ref cg)/\PySem.W.kitOne K (.ref C) (.ref n1)=some false/\PySem.W.kitOne K (.ref C) (.ref n2)=some false/\PySem.W.kitOne K (.ref C) (.ref n3)=some false/\
  PySem.W.kitOne K (.ref C) (.ref n4)=some false/\PySem.W.kitOne K (.ref C) (.ref n5)=some false/\PySem.W.kitOne K (.ref C) (.ref n6)=some false/\PySem.W.kitOne K (.ref C) (.ref n7)=some false/\PySem.W.kitOne K (.ref C) (.ref n8)=some false/\
  PySem.W.kitOne K (.ref C) (.ref cn)=some bN/\PySem.W.kitOne K (.ref C) (.ref cm)=some bM/\PySem.W.kitOne K (.ref C) (.ref cg)=some bG
 ve:PySem.W.kitOne K (.ref C) (.type "ValueError")=some true
 hv:mg "ValueError"=none
 gt:RX.XGet K C
section
variable{P:Program}{w:World}{K:PySem.W.Frag}{mg:Str->Option Value}{base:Heap}{cT cM cN cG:Addr}
abbrev sKi:Stmt:=top 75
abbrev nKi:List Str:=["_law_e","_law_kinds_here","_law_others"]
inductive spKi(K:PySem.W.Frag)(mg:Str->Option Value)(vs:List V)(H:Hp)(Q:VK)(_z3:XK):Prop
 |mk (e C:Addr) (bN bM bG:Bool) (od:Option Addr) (_:vs=[.ref e]) (_:Kinds K mg C bN bM bG) (_:H e=some (RX.XO C od e)) (_:(∀dx,od=some dx->∃u,H dx=some u)) (_:∀H' l,Same H H'->H' l=some (.lst [.bl bN,.bl bM,.bl bG,.bl true,.bl false])->Q (.ref l) H')
theorem scKi:FnScope nKi ["_law_e"] (defScope sKi):=⟨rfl,rfl,rfl,by decide+kernel,rfl,by decide+kernel,by decide+kernel⟩
theorem ok_ki{f:Addr}{fd:FuncData}(F:Fun K "_law_kinds" "_law_kinds" sKi f fd)(T:Bi mg):RX.FnM P w K mg base 1 f fd ["_law_e"] (spKi K mg):=by
 refine RX.funM_ok F scKi (fun vs H Q E h=>?_) (fun cdv A outer s H vs Q hr h=>?_)
 ·obtain⟨e,C,bN,bM,bG,od,rfl,_⟩:=h
  rfl
 ·obtain⟨e,C,bN,bM,bG,od,rfl,KC,he,hd,q⟩:=h
  obtain⟨n1,n2,n3,n4,n5,n6,n7,n8,cn,cm,cg,g1,g2,g3,g4,g5,g6,g7,g8,gn,gm,gg,k1,k2,k3,k4,k5,k6,k7,k8,kn,km,kg⟩:=KC.ex
  refine⟨_,pss_cons (ps_set (i:=1) scKi.nd rfl (Or.inl rfl) (pe_lstS (pa_c (pe_callB RX.call_isinstX rfl T.isi bIsi (pa_c (pv 0) (pa_c (pe_glob (v:= .ref n1) rfl g1 rfl) pa_nil))) (pa_c (pe_callB RX.call_isinstX rfl T.isi bIsi (pa_c (pv 0) (pa_c (pe_glob (v:= .ref n2) rfl g2 rfl) pa_nil)))
    (pa_c (pe_callB RX.call_isinstX rfl T.isi bIsi (pa_c (pv 0) (pa_c (pe_glob (v:= .ref n3) rfl g3 rfl) pa_nil))) (pa_c (pe_callB RX.call_isinstX rfl T.isi bIsi (pa_c (pv 0) (pa_c (pe_glob (v:= .ref n4) rfl g4 rfl) pa_nil))) pa_nil))))))
   (pss_cons (ps_set (i:=1) scKi.nd rfl (Or.inl rfl) (pe_op op_catLS (pv 1) (pe_lstS (pa_c (pe_callB RX.call_isinstX rfl T.isi bIsi (pa_c (pv 0) (pa_c (pe_glob (v:= .ref n5) rfl g5 rfl) pa_nil))) (pa_c (pe_callB RX.call_isinstX rfl T.isi bIsi (pa_c (pv 0) (pa_c (pe_glob (v:= .ref n6) rfl g6 rfl) pa_nil)))
    (pa_c (pe_callB RX.call_isinstX rfl T.isi bIsi (pa_c (pv 0) (pa_c (pe_glob (v:= .ref n7) rfl g7 rfl) pa_nil))) pa_nil))))))
   (pss_cons (ps_set (i:=2) scKi.nd rfl (Or.inl rfl) (pe_or (pe_cmpR op_in_seq pe_bl (pv 1) rfl) (pe_one (pe_callB RX.call_isinstX rfl T.isi bIsi (pa_c (pv 0) (pa_c (pe_glob (v:= .ref n8) rfl g8 rfl) pa_nil))))))
   (pss_one (ps_ret (pe_lstS (pa_c (pe_callB RX.call_isinstX rfl T.isi bIsi (pa_c (pv 0) (pa_c (pe_glob (v:= .ref cn) rfl gn rfl) pa_nil))) (pa_c (pe_callB RX.call_isinstX rfl T.isi bIsi (pa_c (pv 0) (pa_c (pe_glob (v:= .ref cm) rfl gm rfl) pa_nil))) (pa_c (pe_callB RX.call_isinstX rfl T.isi bIsi (pa_c (pv 0) (pa_c (pe_glob (v:= .ref cg) rfl gg rfl) pa_nil)))
    (pa_c (pe_callB RX.call_isinstX rfl T.isi bIsi (pa_c (pv 0) (pa_c (pe_bltn (v:= .ty "ValueError") rfl KC.hv rfl rfl) pa_nil))) (pa_c (pv 2) pa_nil)))))))))),?_⟩
  have hdd:∀{G:Hp},Same H G->∀dx,od=some dx->∃u,G dx=some u:=fun{G} sG dx hdx=>let⟨u,hu⟩:=hd dx hdx;⟨u,sG _ _ hu⟩
  refine⟨_,rfl,e,C,od,_,_,false,rfl,(Same.refl H) _ _ he,hdd (Same.refl H),KC.gt,rfl,k1,_,rfl,e,C,od,_,_,false,rfl,(Same.refl H) _ _ he,hdd (Same.refl H),KC.gt,rfl,k2,_,rfl,e,C,od,_,_,false,rfl,(Same.refl H) _ _ he,hdd (Same.refl H),KC.gt,rfl,k3,_,rfl,e,C,od,_,_,false,rfl,(Same.refl H) _ _ he,hdd (Same.refl H),KC.gt,rfl,k4,rfl,fun l1 H1 s1 hl1=>?_⟩
  refine⟨_,rfl,_,rfl,e,C,od,_,_,false,rfl,s1 _ _ he,hdd s1,KC.gt,rfl,k5,_,rfl,e,C,od,_,_,false,rfl,s1 _ _ he,hdd s1,KC.gt,rfl,k6,_,rfl,e,C,od,_,_,false,rfl,s1 _ _ he,hdd s1,KC.gt,rfl,k7,rfl,fun l2 H2 s2 hl2=>?_⟩
  refine⟨l1,l2,_,_,rfl,rfl,s2 _ _ hl1,hl2,(by show 4+3<=100000;decide),fun l3 H3 s3 hl3=>?_⟩
  refine⟨_,rfl,l3,_,rfl,.inl (SqL.of hl3),rfl,rfl,false,(by rfl),iteF ?_⟩
  have s4:=Same.trans s1 (Same.trans s2 s3)
  refine⟨_,rfl,e,C,od,_,_,false,rfl,s4 _ _ he,hdd s4,KC.gt,rfl,k8,?_⟩
  exact⟨_,rfl,e,C,od,_,_,bN,rfl,s4 _ _ he,hdd s4,KC.gt,rfl,kn,_,rfl,e,C,od,_,_,bM,rfl,s4 _ _ he,hdd s4,KC.gt,rfl,km,_,rfl,e,C,od,_,_,bG,rfl,s4 _ _ he,hdd s4,KC.gt,rfl,kg,_,rfl,e,C,od,_,_,true,rfl,s4 _ _ he,hdd s4,KC.gt,rfl,KC.ve,_,rfl,rfl,fun l5 H5 s5 hl5=>q H5 l5 (Same.trans s4 s5) hl5⟩
abbrev sRf:Stmt:=top 76
abbrev nRf:List Str:=["_law_table","_law_way","_law_one","_law_other","_law_seen","_law_field","_law_e"]
def RfZ(H:Hp)(l:Addr)(bN bM bG:Bool)(m:Int):Prop:=∃s:Addr,H l=some (.lst [.ref s,.int m])/\H s=some (.lst [.bl bN,.bl bM,.bl bG,.bl true,.bl false])
inductive RfC(H:Hp)(u:List Str)(rr:Rws'):Str->V->V->Bool->Bool->Bool->Int->Prop
 |meN {x y:V} (kx:Kn H x) (ky:Kn H y) (sx:smallV x) (sy:smallV y) (h:nameV x=false\/nameV y=false\/x=y):RfC H u rr "meet" x y true false false 0
 |meG {a b:Str} {m:Int} (h60:u.length<=60) (na:nameB a=true) (nb:nameB b=true) (ne:a≠b) (h:(60<(addNs u [a,b]).length/\m=60)\/((addNs u [a,b]).length<=60/\200<=rr.length/\m=200)):RfC H u rr "meet" (.str a) (.str b) false false true m
 |day {x y:V} (kx:Kn H x) (sx:smallV x) (h:∀z,x= .str z->nameB z=true->z ∉ u):RfC H u rr "day" x y true false false 0
 |hour {x y:V} (kx:Kn H x) (h:NoNo rr x):RfC H u rr "hour" x y false true false 0
 |leave {x y:V} (kx:Kn H x) (h:NoNo rr x):RfC H u rr "leave" x y false true false 0
def spMeX(cT cN cG:Addr):Sp:=fun vs H Q E=>spMeN cN vs H Q E\/∃C,spMeG cT C cG vs H Q E
inductive spRf(cT:Addr)(vs:List V)(H:Hp)(Q:VK)(_z3:XK):Prop
 |mk (t:Addr) (wy:Str) (x y:V) (C:Addr) (u:List Str) (rr:Rws') (md cr:Nat) (bN bM bG:Bool) (m:Int) (_:vs=[.ref t,.str wy,x,y]) (_:TabZ cT C H t u rr md cr) (_:RfC H u rr wy x y bN bM bG m) (_:∀H' l,Same H H'->RfZ H' l bN bM bG m->Q (.ref l) H')
theorem scRf:FnScope nRf ["_law_table","_law_way","_law_one","_law_other"] (defScope sRf):=⟨rfl,rfl,rfl,by decide+kernel,rfl,by decide+kernel,by decide+kernel⟩
theorem RfC.same{H H':Hp}{u:List Str}{rr:Rws'}{wy:Str}{x y:V}{bN bM bG:Bool}{m:Int}(h:RfC H u rr wy x y bN bM bG m)(s:Same H H'):RfC H' u rr wy x y bN bM bG m:=by
 cases h with
 |meN kx ky sx sy h=>exact .meN (kx.same s) (ky.same s) sx sy h
 |meG h60 na nb ne h=>exact .meG h60 na nb ne h
 |day kx sx h=>exact .day (kx.same s) sx h
 |hour kx h=>exact .hour (kx.same s) h
 |leave kx h=>exact .leave (kx.same s) h
structure RfK(K:PySem.W.Frag)(mg:Str->Option Value)(cN cM cG te:Addr):Prop where
 KN:Kinds K mg cN true false false
 KM:Kinds K mg cM false true false
 KG:Kinds K mg cG false false true
 gG:mg "TooGreat"=some (.ref cG)
 gE:mg "TintError"=some (.ref te)
 hbG:PySem.W.mroIn K cG (.type "BaseException")=some true
 hbE:PySem.W.mroIn K te (.type "BaseException")=some true
 n1:PySem.W.kitCls K (.ref cN) (.ref cG)=some false
 n2:PySem.W.kitCls K (.ref cN) (.ref te)=some true
 m1:PySem.W.kitCls K (.ref cM) (.ref cG)=some false
 m2:PySem.W.kitCls K (.ref cM) (.ref te)=some true
 g1:PySem.W.kitCls K (.ref cG) (.ref cG)=some true
 hn:PySem.W.findIn K (.ref cG) "most"=some none
theorem ok_rf{f fM fD fH fL fK te:Addr}{fd fdM fdD fdH fdL fdK:FuncData}(F:Fun K "_law_refused" "_law_refused" sRf f fd)(T:Bi mg)(R:RfK K mg cN cM cG te)(hC:Cls K cT)
  (FM:FnOk P w K mg base (RX.CXe P w) 9 fM fdM ["self","one","other"] (spMeX cT cN cG))(gM:Meth K cT "meet" fM)(bMe:L2.Binds K fdM ["self","one","other"] [])
  (FD:FnOk P w K mg base (RX.CXe P w) 9 fD fdD ["self","name"] (fun vs H Q E=>∃C,spDyX cT C cN vs H Q E)) (gD:Meth K cT "day" fD) (bD:L2.Binds K fdD ["self","name"] [])
  (FH:FnOk P w K mg base (RX.CXe P w) 9 fH fdH ["self","number"] (fun vs H Q E=>∃C,spCkX cT C cM vs H Q E)) (gH:Meth K cT "hour" fH) (bH:L2.Binds K fdH ["self","number"] [])
  (FL:FnOk P w K mg base (RX.CXe P w) 9 fL fdL ["self","number"] (fun vs H Q E=>∃C,spCkX cT C cM vs H Q E)) (gL:Meth K cT "leave" fL) (bL:L2.Binds K fdL ["self","number"] [])
  (FK:RX.FnM P w K mg base 1 fK fdK ["_law_e"] (spKi K mg)) (gK:mg "_law_kinds"=some (.ref fK)) (kK:PySem.W.keepIn K (.ref fK)=true) (bK:L2.Binds K fdK ["_law_e"] []):
  FnOk P w K mg base CX0 10 f fd ["_law_table","_law_way","_law_one","_law_other"] (spRf cT):=by
 refine F.ok scRf (fun vs H Q E h=>?_) (fun cdv A outer s H vs Q E hr h=>?_)
 ·obtain⟨t,wy,x,y,C,u,rr,md,cr,bN,bM,bG,m,rfl,_⟩:=h
  rfl
 ·obtain⟨t,wy,x,y,C,u,rr,md,cr,bN,bM,bG,m,rfl,hT,h,q⟩:=h
  refine⟨_,pss_cons (ps_set (i:=4) scRf.nd rfl (Or.inl rfl) (pe_lstS pa_nil))
   (pss_cons (ps_set (i:=5) scRf.nd rfl (Or.inl rfl) pe_int)
   (pss_cons (RX.ps_try rfl rfl (fun pn E Ex ht=>pss_one (ps_if (pt_cmpR op_eq (pv 1) pe_str (nomark _))
     (pss_one (ps_expr (RX.pe_methX (pv 0) hC gM FM hr bMe ht (pa_c (pv 2) (pa_c (pv 3) pa_nil)))))
     (pss_one (ps_if (pt_cmpR op_eq (pv 1) pe_str (nomark _)) (pss_one (ps_expr (RX.pe_methX (pv 0) hC gD FD hr bD ht (pa_c (pv 2) pa_nil))))
     (pss_one (ps_if (pt_cmpR op_eq (pv 1) pe_str (nomark _)) (pss_one (ps_expr (RX.pe_methX (pv 0) hC gH FH hr bH ht (pa_c (pv 2) pa_nil))))
     (pss_one (ps_expr (RX.pe_methX (pv 0) hC gL FL hr bL ht (pa_c (pv 2) pa_nil))))))))))
    (RX.ph_as (i:=6) rfl R.gG R.hbG scRf.nd rfl rfl (fun e=>pss_cons (ps_set (i:=4) scRf.nd rfl (Or.inl rfl) (RX.pe_callM FK (RX.RoomM.mono (RX.RoomM.of hr _) (by decide)) rfl gK kK bK .nil (pa_c (pv 6) pa_nil))) (pss_one (ps_set (i:=5) scRf.nd rfl (Or.inl rfl) (RX.pe_fldXK (K:=K) rfl (pv 6) rfl))))
    (RX.ph_as (i:=6) rfl R.gE R.hbE scRf.nd rfl rfl (fun e=>pss_one (ps_set (i:=4) scRf.nd rfl (Or.inl rfl) (RX.pe_callM FK (RX.RoomM.mono (RX.RoomM.of hr _) (by decide)) rfl gK kK bK .nil (pa_c (pv 6) pa_nil)))) RX.ph_nil)))
   (pss_one (ps_ret (pe_lstS (pa_c (pv 4) (pa_c (pv 5) pa_nil))))))),?_⟩
  refine⟨rfl,fun l0 H0 s0 hl0=>⟨_,rfl,?_⟩⟩
  obtain⟨dx,wy',dw,dp,dt,dg,Z0⟩:=id (hT.same s0)
  have hT0:=hT.same s0
  have h0:=h.same s0
  clear h
  have tw:∀{wy w2:Str},¬(V.str wy=V.str w2)->¬(decide (V.str wy=V.str w2)=true):=fun n z=>n (of_decide_eq_true z)
  cases h0 with
  |meN kx ky sx sy h=>
   refine⟨rfl,_,rfl,iteT ?_⟩
   refine⟨_,rfl,t,dx,_,rfl,Z0.t,rfl,_,rfl,_,rfl,.inl ⟨t,x,y,rfl,kx,ky,sx,sy,h,fun H1 s1=>?_⟩⟩
   refine⟨cN,false,rfl,R.n1,iteF ⟨cN,true,rfl,R.n2,?_⟩⟩
   rw[if_pos rfl]
   intro e he
   refine⟨_,rfl,e,cN,true,false,false,none,rfl,R.KN,upd_same,(fun d z=>by cases z),fun H2 l s2 hl=>?_⟩
   exact⟨_,rfl,_,rfl,rfl,fun l3 H3 s3 hl3=>q H3 l3 (Same.trans s0 (Same.trans s1 (Same.trans (same_add he) (Same.trans s2 s3)))) ⟨l,hl3,s3 _ _ hl⟩⟩
  |meG h60 na nb ne h=>
   refine⟨rfl,_,rfl,iteT ?_⟩
   refine⟨_,rfl,t,dx,_,rfl,Z0.t,rfl,_,rfl,_,rfl,.inr ⟨C,t,_,_,u,rr,md,cr,m,rfl,hT0,h60,na,nb,ne,h,fun H1 dx s1 hdx=>?_⟩⟩
   refine⟨cG,true,rfl,R.g1,?_⟩
   rw[if_pos rfl]
   intro e he
   have hed:e≠dx:=fun z=>by rw[z,upd_same]at he;cases he
   have s1d:Same H1 (upd H1 dx (.xd [("most",.int m)])):=same_add hdx
   have s1e:Same (upd H1 dx (.xd [("most",.int m)])) (upd (upd H1 dx (.xd [("most",.int m)])) e (RX.XO cG (some dx) e)):=same_add he
   have gd:(upd (upd H1 dx (.xd [("most",.int m)])) e (RX.XO cG (some dx) e)) dx=some (.xd [("most",.int m)]):=by rw[upd_ne (Ne.symm hed),upd_same]
   refine⟨_,rfl,e,cG,false,false,true,some dx,rfl,R.KG,upd_same,(fun d z=>by cases z;exact⟨_,gd⟩),fun H2 l s2 hl=>?_⟩
   refine⟨_,rfl,e,cG,dx,_,_,rfl,s2 _ _ upd_same,s2 _ _ gd,R.KG.gt,R.hn,rfl,(fun n z=>by cases z),?_⟩
   exact⟨_,rfl,_,rfl,rfl,fun l3 H3 s3 hl3=>q H3 l3 (Same.trans s0 (Same.trans s1 (Same.trans s1d (Same.trans s1e (Same.trans s2 s3))))) ⟨l,hl3,s3 _ _ hl⟩⟩
  |day kx sx h=>
   refine⟨rfl,_,rfl,iteF ⟨_,rfl,rfl,_,rfl,iteT ?_⟩⟩
   refine⟨_,rfl,t,dx,_,rfl,Z0.t,rfl,_,rfl,C,t,x,u,rr,md,cr,rfl,hT0,kx,sx,h,fun H1 s1=>?_⟩
   refine⟨cN,false,rfl,R.n1,iteF ⟨cN,true,rfl,R.n2,?_⟩⟩
   rw[if_pos rfl]
   intro e he
   refine⟨_,rfl,e,cN,true,false,false,none,rfl,R.KN,upd_same,(fun d z=>by cases z),fun H2 l s2 hl=>?_⟩
   exact⟨_,rfl,_,rfl,rfl,fun l3 H3 s3 hl3=>q H3 l3 (Same.trans s0 (Same.trans s1 (Same.trans (same_add he) (Same.trans s2 s3)))) ⟨l,hl3,s3 _ _ hl⟩⟩
  |hour kx h=>
   refine⟨rfl,_,rfl,iteF ⟨_,rfl,rfl,_,rfl,iteF ⟨_,rfl,rfl,_,rfl,iteT ?_⟩⟩⟩
   refine⟨_,rfl,t,dx,_,rfl,Z0.t,rfl,_,rfl,C,t,x,u,rr,md,cr,rfl,hT0,kx,h,fun H1 s1=>?_⟩
   refine⟨cM,false,rfl,R.m1,iteF ⟨cM,true,rfl,R.m2,?_⟩⟩
   rw[if_pos rfl]
   intro e he
   refine⟨_,rfl,e,cM,false,true,false,none,rfl,R.KM,upd_same,(fun d z=>by cases z),fun H2 l s2 hl=>?_⟩
   exact⟨_,rfl,_,rfl,rfl,fun l3 H3 s3 hl3=>q H3 l3 (Same.trans s0 (Same.trans s1 (Same.trans (same_add he) (Same.trans s2 s3)))) ⟨l,hl3,s3 _ _ hl⟩⟩
  |leave kx h=>
   refine⟨rfl,_,rfl,iteF ⟨_,rfl,rfl,_,rfl,iteF ⟨_,rfl,rfl,_,rfl,iteF ?_⟩⟩⟩
   refine⟨_,rfl,t,dx,_,rfl,Z0.t,rfl,_,rfl,C,t,x,u,rr,md,cr,rfl,hT0,kx,h,fun H1 s1=>?_⟩
   refine⟨cM,false,rfl,R.m1,iteF ⟨cM,true,rfl,R.m2,?_⟩⟩
   rw[if_pos rfl]
   intro e he
   refine⟨_,rfl,e,cM,false,true,false,none,rfl,R.KM,upd_same,(fun d z=>by cases z),fun H2 l s2 hl=>?_⟩
   exact⟨_,rfl,_,rfl,rfl,fun l3 H3 s3 hl3=>q H3 l3 (Same.trans s0 (Same.trans s1 (Same.trans (same_add he) (Same.trans s2 s3)))) ⟨l,hl3,s3 _ _ hl⟩⟩
end
theorem RfZ.sam{K:PySem.W.Frag}{H:Hp}{l l':Addr}{bN bM bG:Bool}{m:Int}(a:RfZ H l bN bM bG m)(b:RfZ H l' bN bM bG m):∃xs ys:List V,SqL K H l xs/\SqL K H l' ys/\xs.length=ys.length/\∀(i:Nat) u v,xs[i]?=some u->ys[i]?=some v->Sam K H 6 u v:=by
 obtain⟨s,h1,h2⟩:=a
 obtain⟨s',h1',h2'⟩:=b
 refine⟨_,_,SqL.of h1,SqL.of h1',rfl,fun i u v hu hv=>?_⟩
 match i,hu,hv with
 |0,hu,hv=>
  cases hu;cases hv
  refine .inr ⟨s,s',_,_,rfl,rfl,.inr ⟨SqL.of h2,SqL.of h2'⟩,rfl,fun j x y hx hy=> .inl ?_⟩
  rw[hx]at hy
  cases hy
  match j,hx with
  |0,hx=>cases hx;exact⟨rfl,trivial⟩
  |1,hx=>cases hx;exact⟨rfl,trivial⟩
  |2,hx=>cases hx;exact⟨rfl,trivial⟩
  |3,hx=>cases hx;exact⟨rfl,trivial⟩
  |4,hx=>cases hx;exact⟨rfl,trivial⟩
 |1,hu,hv=>cases hu;cases hv;exact .inl ⟨rfl,trivial⟩
theorem RfZ.keep{H H':Hp}{l:Addr}{bN bM bG:Bool}{m:Int}(a:RfZ H l bN bM bG m)(s:Same H H'):RfZ H' l bN bM bG m:=let⟨x,h1,h2⟩:=a;⟨x,s _ _ h1,s _ _ h2⟩
theorem RfZ.ne{K:PySem.W.Frag}{H:Hp}{l l':Addr}{bN bM bG b:Bool}{m:Int}{Q:VK}(a:RfZ H l bN bM bG m)(c:RfZ H l' bN bM bG m)(q:Q (.bl b) H):rNeD K b (.ref l) (.ref l') H Q:=
 let⟨xs,ys,x1,x2,x3,x4⟩:=RfZ.sam (K:=K) a c;⟨l,l',xs,ys,rfl,rfl,.inr ⟨x1,x2⟩,x3,x4,q⟩
def Bad(H:Hp)(v:V):Prop:=Kn H v/\smallV v/\nameV v=false
theorem Bad.same{H H':Hp}{v:V}(h:Bad H v)(s:Same H H'):Bad H' v:=⟨h.1.same s,h.2⟩
section
variable{P:Program}{w:World}{K:PySem.W.Frag}{mg:Str->Option Value}{base:Heap}{cT cM cN cG:Addr}
abbrev sNo:Stmt:=top 77
abbrev nNo:List Str:=["_law_number","_law_some"]
inductive spNo(vs:List V)(H:Hp)(Q:VK)(_z3:XK):Prop
 |mk (n:Int) (_:vs=[.int n]) (_:∀H' v,Same H H'->Bad H' v->Q v H')
theorem scNo:FnScope nNo ["_law_number"] (defScope sNo):=⟨rfl,rfl,rfl,by decide+kernel,rfl,by decide+kernel,by decide+kernel⟩
theorem ok_no{f:Addr}{fd:FuncData}(F:Fun K "_law_no_name" "_law_no_name" sNo f fd):FnOk P w K mg base CX0 1 f fd ["_law_number"] spNo:=by
 refine F.ok scNo (fun vs H Q E h=>?_) (fun cdv A outer s H vs Q E hr h=>?_)
 ·obtain⟨n,rfl,_⟩:=h
  rfl
 ·obtain⟨n,rfl,q⟩:=h
  obtain⟨e0,e1,e2,e3,e4,e5,e6,e7,e8,e9,e10,e11,r,p0,p1,p2,hB,h0,h1,h2,h3,h4,h5,h6,h7,h8,h9,h10,h11,hr2,w0,w1,w2,w3,w4,w5,w6,w7,w8,w9,w10,w11⟩:∃(e0 e1 e2 e3 e4 e5 e6 e7 e8 e9 e10 e11:Expr)(r:Stmt)(p0 p1 p2:Pos),defBody sNo=[.Assign [.Name "_law_some" p0] (.List [e0,e1,e2,e3,e4,e5,e6,e7,e8,e9,e10,e11] p1) p2,r]/\
    PE (cxOf CX0 P w K mg base nNo "_law_no_name" (defScope sNo) f cdv A outer s H E).nox e0 (tC (.str (Str.ofString "")))/\PE (cxOf CX0 P w K mg base nNo "_law_no_name" (defScope sNo) f cdv A outer s H E).nox e1 (tC (.str (Str.ofString "Ada")))/\PE (cxOf CX0 P w K mg base nNo "_law_no_name" (defScope sNo) f cdv A outer s H E).nox e2 (tC (.str (Str.ofString "abcdefghi")))/\
    PE (cxOf CX0 P w K mg base nNo "_law_no_name" (defScope sNo) f cdv A outer s H E).nox e3 (tC (.str (Str.ofString "a1")))/\PE (cxOf CX0 P w K mg base nNo "_law_no_name" (defScope sNo) f cdv A outer s H E).nox e4 (tC (.str (Str.ofString "a b")))/\PE (cxOf CX0 P w K mg base nNo "_law_no_name" (defScope sNo) f cdv A outer s H E).nox e5 (tC .non)/\PE (cxOf CX0 P w K mg base nNo "_law_no_name" (defScope sNo) f cdv A outer s H E).nox e6 (tC (.int 3))/\
    PE (cxOf CX0 P w K mg base nNo "_law_no_name" (defScope sNo) f cdv A outer s H E).nox e7 (tC (.bl true))/\PE (cxOf CX0 P w K mg base nNo "_law_no_name" (defScope sNo) f cdv A outer s H E).nox e8 (tTupS (tCons (tC (.str (Str.ofString "ada"))) tNil))/\PE (cxOf CX0 P w K mg base nNo "_law_no_name" (defScope sNo) f cdv A outer s H E).nox e9 (tLstS (tCons (tC (.str (Str.ofString "ada"))) tNil))/\
    PE (cxOf CX0 P w K mg base nNo "_law_no_name" (defScope sNo) f cdv A outer s H E).nox e10 (tC (.str (Str.ofString "ada\n")))/\PE (cxOf CX0 P w K mg base nNo "_law_no_name" (defScope sNo) f cdv A outer s H E).nox e11 tDNewS/\
    PS (cxOf CX0 P w K mg base nNo "_law_no_name" (defScope sNo) f cdv A outer s H E).nox r (tRet (tOp (rIxL K) (tVar 1) (tOp (rI (fun _ j=>0<j) fun i j=> .int (i%j)) (tVar 0) (tC (.int 12)))))/\
    plainE e0=true/\plainE e1=true/\plainE e2=true/\plainE e3=true/\plainE e4=true/\plainE e5=true/\plainE e6=true/\plainE e7=true/\plainE e8=true/\plainE e9=true/\plainE e10=true/\plainE e11=true:=
   ⟨_,_,_,_,_,_,_,_,_,_,_,_,_,_,_,_,rfl,pe_str,pe_str,pe_str,pe_str,pe_str,pe_non,pe_int,pe_bl,pe_tupS (pa_c pe_str pa_nil),pe_lstS (pa_c pe_str pa_nil),pe_str,pe_dnewS,ps_ret (pe_ix ix_list (pv 1) (pe_op op_mod (pv 0) pe_int) (fun _ _=>rfl)),rfl,rfl,rfl,rfl,rfl,rfl,rfl,rfl,rfl,rfl,rfl,rfl⟩
  rw[hB]
  refine⟨_,pss_cons (ps_set (i:=1) scNo.nd rfl (Or.inl rfl) (pe_lstS (@pa_c _ _ _ _ _ h0 (@pa_c _ _ _ _ _ h1 (@pa_c _ _ _ _ _ h2 (@pa_c _ _ _ _ _ h3 (@pa_c _ _ _ _ _ h4 (@pa_c _ _ _ _ _ h5 (@pa_c _ _ _ _ _ h6 (@pa_c _ _ _ _ _ h7 (@pa_c _ _ _ _ _ h8 (@pa_c _ _ _ _ _ h9 (@pa_c _ _ _ _ _ h10 (@pa_c _ _ _ _ _ h11 pa_nil w11) w10) w9) w8) w7) w6) w5) w4) w3) w2) w1) w0))) (pss_one hr2),?_⟩
  refine⟨rfl,fun a1 H1 s1 ha1=>⟨rfl,fun a2 H2 s2 ha2=>fun a3 H3 s3 ha3=>⟨rfl,fun l H4 s4 hl=>?_⟩⟩⟩
  have s14:Same H H4:=Same.trans s1 (Same.trans s2 (Same.trans s3 s4))
  have th:∀j:Nat,j<12->∃v,[V.str (Str.ofString ""),.str (Str.ofString "Ada"),.str (Str.ofString "abcdefghi"),.str (Str.ofString "a1"),.str (Str.ofString "a b"),.non,.int 3,.bl true,.ref a1,.ref a2,.str (Str.ofString "ada\n"),.ref a3][j]?=some v/\Bad H4 v:=fun j hj=>by
   match j,hj with
   |0,_=>exact⟨_,rfl,.str _,(by show Str.length _<=_;decide+kernel),(by decide+kernel)⟩
   |1,_=>exact⟨_,rfl,.str _,(by show Str.length _<=_;decide+kernel),(by decide+kernel)⟩
   |2,_=>exact⟨_,rfl,.str _,(by show Str.length _<=_;decide+kernel),(by decide+kernel)⟩
   |3,_=>exact⟨_,rfl,.str _,(by show Str.length _<=_;decide+kernel),(by decide+kernel)⟩
   |4,_=>exact⟨_,rfl,.str _,(by show Str.length _<=_;decide+kernel),(by decide+kernel)⟩
   |5,_=>exact⟨_,rfl,.non,trivial,rfl⟩
   |6,_=>exact⟨_,rfl,.int _,trivial,rfl⟩
   |7,_=>exact⟨_,rfl,.bl _,trivial,rfl⟩
   |8,_=>exact⟨_,rfl,.tup (s4 _ _ (s3 _ _ (s2 _ _ ha1))),trivial,rfl⟩
   |9,_=>exact⟨_,rfl,.lst (s4 _ _ (s3 _ _ ha2)),trivial,rfl⟩
   |10,_=>exact⟨_,rfl,.str _,(by show Str.length _<=_;decide+kernel),(by decide+kernel)⟩
   |11,_=>exact⟨_,rfl,.dK (s4 _ _ ha3),trivial,rfl⟩
  have j0:=Int.emod_nonneg n (b:=12) (by decide)
  have j1:=Int.emod_lt_of_pos n (b:=12) (by decide)
  obtain⟨j,hj⟩:∃j:Nat,(j:Int)=n%12:=⟨(n%12).toNat,by omega⟩
  obtain⟨v,hv1,hv2⟩:=th j (by omega)
  have hat:=atI_nat hv1
  rw[hj]at hat
  exact⟨_,rfl,_,rfl,_,_,rfl,rfl,(by show(0:Int)<12;decide),l,_,_,v,rfl,rfl,SqL.of hl,hat,q H4 v s14 hv2⟩
abbrev sNr:Stmt:=top 78
abbrev nNr:List Str:=["_law_script","_law_table","_law_no_name_here","_law_k","_law_bad","_law_pair","_law_name"]
inductive spNr(K:PySem.W.Frag)(cT:Addr)(vs:List V)(H:Hp)(Q:VK)(_z3:XK):Prop
 |mk (a t:Addr) (ns:List Int) (C:Addr) (u:List Str) (rr:Rws') (md cr:Nat) (_:vs=[.ref a,.ref t]) (_:SqL K H a (ns.map V.int)) (_:Dr ns) (_:TabZ cT C H t u rr md cr) (_:(Str.ofString "newname") ∉ u) (_:∀H',Same H H'->Q (.bl true) H')
theorem scNr:FnScope nNr ["_law_script","_law_table"] (defScope sNr):=⟨rfl,rfl,rfl,by decide+kernel,rfl,by decide+kernel,by decide+kernel⟩
theorem ok_nr{f:Addr}{fd:FuncData}(F:Fun K "_law_names_refused" "_law_names_refused" sNr f fd)(T:Bi mg)(FD:FnE P w K mg base "_law_draw" ["_law_script","_law_k"] 10 (spDraw K))(FNo:FnE P w K mg base "_law_no_name" ["_law_number"] 10 spNo)(FRf:FnE P w K mg base "_law_refused" ["_law_table","_law_way","_law_one","_law_other"] 10 (spRf cT)):FnOk P w K mg base CX0 11 f fd ["_law_script","_law_table"] (spNr K cT):=by
 refine F.ok scNr (fun vs H Q E h=>?_) (fun cdv A outer s H vs Q E hr h=>?_)
 ·obtain⟨a,t,ns,C,u,rr,md,cr,rfl,_⟩:=h
  rfl
 ·obtain⟨a,t,ns,C,u,rr,md,cr,rfl,hS,hD,hT,hnw,q⟩:=h
  refine⟨_,pss_cons (ps_set (i:=2) scNr.nd rfl (Or.inl rfl) (pe_lstS (pa_c (pe_lstS (pa_c pe_bl (pa_c pe_bl (pa_c pe_bl (pa_c pe_bl (pa_c pe_bl pa_nil)))))) (pa_c pe_int pa_nil))))
   (pss_cons (ps_for PassesOwn.never rfl (pi_range1 rfl T.range (pa_c pe_int pa_nil)) (pg_name (i:=3) scNr.nd rfl (Or.inl rfl))
    (pss_cons (ps_set (i:=4) scNr.nd rfl (Or.inl rfl) (pe_fc FNo hr (pa_c (pe_fc FD hr (pa_c (pv 0) (pa_c (pe_op op_add pe_int (pv 3)) pa_nil))) pa_nil)))
    (pss_cons (ps_set (i:=5) scNr.nd rfl (Or.inl rfl) (pe_lstS (pa_c pe_str (pa_c (pv 4) pa_nil))))
    (pss_cons (ps_if (pt_cmpR op_eq (pe_op op_mod (pv 3) pe_int) pe_int (nomark _)) (pss_one (ps_set (i:=5) scNr.nd rfl (Or.inl rfl) (pe_lstS (pa_c (pv 4) (pa_c pe_str pa_nil))))) pss_nil)
    (pss_cons (ps_if (pt_cmpR (op_neD hr) (pe_fc FRf hr (pa_c (pv 1) (pa_c pe_str (pa_c (pe_ix ix_list (pv 5) pe_int (fun _ _=>rfl)) (pa_c (pe_ix ix_list (pv 5) pe_int (fun _ _=>rfl)) pa_nil))))) (pv 2) (nomark _)) (pss_one (ps_ret pe_bl)) pss_nil)
    (pss_one (ps_if (pt_cmpR (op_neD hr) (pe_fc FRf hr (pa_c (pv 1) (pa_c pe_str (pa_c (pv 4) (pa_c pe_non pa_nil))))) (pv 2) (nomark _)) (pss_one (ps_ret pe_bl)) pss_nil)))))))
   (pss_cons (ps_for PassesOwn.never rfl (pi_list (pe_lstS (pa_c pe_str (pa_c pe_str pa_nil)))) (pg_name (i:=6) scNr.nd rfl (Or.inl rfl))
    (pss_one (ps_if (pt_cmpR (op_neD hr) (pe_fc FRf hr (pa_c (pv 1) (pa_c pe_str (pa_c (pv 6) (pa_c (pv 6) pa_nil))))) (pv 2) (nomark _)) (pss_one (ps_ret pe_bl)) pss_nil)))
   (pss_one (ps_ret (pe_cmpR (op_eqD hr) (pe_fc FRf hr (pa_c (pv 1) (pa_c pe_str (pa_c pe_str (pa_c pe_non pa_nil))))) (pv 2) (nomark _)))))),?_⟩
  refine⟨rfl,fun r1 H1 s1 hr1=>⟨rfl,fun NT H2 s2 hNT=>?_⟩⟩
  have NZ:RfZ H2 NT true false false 0:=⟨r1,hNT,s2 _ _ hr1⟩
  have s02:=Same.trans s1 s2
  refine⟨4,rfl,by decide,by decide,for_range (lo:=0) (n:=(4:Int).toNat) (fun i σ G=>(∃v3 v4 v5,σ=[some (.ref a),some (.ref t),some (.ref NT),v3,v4,v5,none])/\Same H2 G)
   ⟨⟨_,_,_,rfl⟩,Same.refl _⟩ (fun i σ G hi xq1=>?_) (fun σ G xq1=>?_)⟩
  ·obtain⟨⟨v3,v4,v5,e⟩,sG⟩:=xq1
   subst e
   rw[Int.zero_add]
   have hi':i<4:=hi
   refine⟨_,rfl,_,rfl,_,_,rfl,rfl,a,ns,_,rfl,(Same.trans s02 sG).seq hS,hD,by omega,by omega,_,rfl,fun G1 v s3 hv=>⟨_,rfl,rfl,fun l1 G2 s4 hl1=>?_⟩⟩
   refine⟨_,rfl,_,_,rfl,rfl,(by show(0:Int)<2;decide),rfl,_,rfl,ite2 (fun _=>⟨_,rfl,rfl,fun l2 G3 s5 hl2=>?_⟩) (fun _=>?_)⟩
   ·have sA:=Same.trans s3 (Same.trans s4 s5)
    have hv3:=hv.same (Same.trans s4 s5)
    have s2A:=Same.trans sG sA
    have nn:RfC G3 u rr "meet" v (.str (Str.ofString "newname")) true false false 0:= .meN hv3.1 (.str _) hv3.2.1 (by show Str.length _<=_;decide+kernel) (.inl hv3.2.2)
    refine⟨_,rfl,_,rfl,l2,_,0,_,rfl,rfl,SqL.of hl2,atI_nat (j:=0) rfl,_,rfl,l2,_,1,_,rfl,rfl,SqL.of hl2,atI_nat (j:=1) rfl,t,_,_,_,C,u,rr,md,cr,true,false,false,0,rfl,hT.same (Same.trans s02 s2A),nn,fun G4 lz s6 rz=>⟨_,rfl,RfZ.ne (K:=K) rz (NZ.keep (Same.trans s2A s6)) ⟨_,rfl,iteF ?_⟩⟩⟩
    refine⟨_,rfl,_,rfl,t,_,_,_,C,u,rr,md,cr,true,false,false,0,rfl,hT.same (Same.trans s02 (Same.trans s2A s6)),.day (hv3.1.same s6) hv3.2.1 (fun z e1 e2=>by have:=hv3.2.2;rw[e1]at this;rw[show nameV (.str z)=nameB z from rfl,e2]at this;cases this),fun G5 ly s7 ry=>⟨_,rfl,RfZ.ne (K:=K) ry (NZ.keep (Same.trans (Same.trans s2A s6) s7)) ⟨_,rfl,iteF ⟨⟨_,_,_,rfl⟩,Same.trans (Same.trans s2A s6) s7⟩⟩⟩⟩
   ·have sA:=Same.trans s3 s4
    have hv3:=hv.same s4
    have s2A:=Same.trans sG sA
    have nn:RfC G2 u rr "meet" (.str (Str.ofString "ann")) v true false false 0:= .meN (.str _) hv3.1 (by show Str.length _<=_;decide+kernel) hv3.2.1 (.inr (.inl hv3.2.2))
    refine⟨_,rfl,_,rfl,l1,_,0,_,rfl,rfl,SqL.of hl1,atI_nat (j:=0) rfl,_,rfl,l1,_,1,_,rfl,rfl,SqL.of hl1,atI_nat (j:=1) rfl,t,_,_,_,C,u,rr,md,cr,true,false,false,0,rfl,hT.same (Same.trans s02 s2A),nn,fun G4 lz s6 rz=>⟨_,rfl,RfZ.ne (K:=K) rz (NZ.keep (Same.trans s2A s6)) ⟨_,rfl,iteF ?_⟩⟩⟩
    refine⟨_,rfl,_,rfl,t,_,_,_,C,u,rr,md,cr,true,false,false,0,rfl,hT.same (Same.trans s02 (Same.trans s2A s6)),.day (hv3.1.same s6) hv3.2.1 (fun z e1 e2=>by have:=hv3.2.2;rw[e1]at this;rw[show nameV (.str z)=nameB z from rfl,e2]at this;cases this),fun G5 ly s7 ry=>⟨_,rfl,RfZ.ne (K:=K) ry (NZ.keep (Same.trans (Same.trans s2A s6) s7)) ⟨_,rfl,iteF ⟨⟨_,_,_,rfl⟩,Same.trans (Same.trans s2A s6) s7⟩⟩⟩⟩
  obtain⟨⟨v3,v4,v5,e⟩,sG⟩:=xq1
  subst e
  refine⟨rfl,fun L G1 s3 hL=>⟨L,rfl,⟨_,SqL.of hL⟩,for_list (K:=K) (fun i σ G'=>(∃v6,σ=[some (.ref a),some (.ref t),some (.ref NT),v3,v4,v5,v6])/\Same G1 G') ⟨⟨_,rfl⟩,Same.refl _⟩ (fun i σ G' _⟨_,e2⟩=>SqL.of (e2 _ _ hL)) (fun i x σ G' hx xq1=>?_) (fun σ G' xq1=>?_)⟩⟩
  ·obtain⟨⟨v6,e1⟩,e2⟩:=xq1
   subst e1
   have s2G:=Same.trans sG (Same.trans s3 e2)
   have nn:RfC G' u rr "meet" x x true false false 0/\True:=by
    match i,hx with
    |0,hx=>cases hx;exact⟨.meN (.str _) (.str _) (by show Str.length _<=_;decide+kernel) (by show Str.length _<=_;decide+kernel) (.inr (.inr rfl)),trivial⟩
    |1,hx=>cases hx;exact⟨.meN (.str _) (.str _) (by show Str.length _<=_;decide+kernel) (by show Str.length _<=_;decide+kernel) (.inr (.inr rfl)),trivial⟩
   refine⟨_,rfl,_,rfl,_,rfl,t,_,_,_,C,u,rr,md,cr,true,false,false,0,rfl,hT.same (Same.trans s02 s2G),nn.1,fun G4 lz s6 rz=>⟨_,rfl,RfZ.ne (K:=K) rz (NZ.keep (Same.trans s2G s6)) ⟨_,rfl,iteF ⟨⟨_,rfl⟩,Same.trans e2 s6⟩⟩⟩⟩
  obtain⟨⟨v6,e1⟩,e2⟩:=xq1
  subst e1
  have s2G:=Same.trans sG (Same.trans s3 e2)
  refine⟨_,rfl,t,_,_,_,C,u,rr,md,cr,true,false,false,0,rfl,hT.same (Same.trans s02 s2G),.day (.str _) (by show Str.length _<=_;decide+kernel) (fun z e1 e2=>by cases e1;exact hnw),fun G4 lz s6 rz=>⟨_,rfl,RfZ.ne (K:=K) rz (NZ.keep (Same.trans s2G s6)) (q G4 (Same.trans s02 (Same.trans s2G s6)))⟩⟩
abbrev sNu:Stmt:=top 79
abbrev nNu:List Str:=["_law_script","_law_table","_law_gone","_law_following","_law_no_meeting","_law_far","_law_things","_law_k","_law_way"]
inductive spNu(K:PySem.W.Frag)(cT:Addr)(vs:List V)(H:Hp)(Q:VK)(_z3:XK):Prop
 |mk (a t:Addr) (ns:List Int) (C:Addr) (u:List Str) (rr:Rws') (md cr:Nat) (g fo:Int) (_:vs=[.ref a,.ref t,.int g,.int fo]) (_:SqL K H a (ns.map V.int)) (_:Dr ns) (_:TabZ cT C H t u rr md cr) (_:(∀y∈rr,(y.2.no:Int)≠g/\(y.2.no:Int)<fo)) (_:∀H',Same H H'->Q (.bl true) H')
theorem scNu:FnScope nNu ["_law_script","_law_table","_law_gone","_law_following"] (defScope sNu):=⟨rfl,rfl,rfl,by decide+kernel,rfl,by decide+kernel,by decide+kernel⟩
theorem ok_nu{f:Addr}{fd:FuncData}(F:Fun K "_law_numbers_refused" "_law_numbers_refused" sNu f fd)(T:Bi mg)(FD:FnE P w K mg base "_law_draw" ["_law_script","_law_k"] 10 (spDraw K))(FRf:FnE P w K mg base "_law_refused" ["_law_table","_law_way","_law_one","_law_other"] 10 (spRf cT)):FnOk P w K mg base CX0 11 f fd ["_law_script","_law_table","_law_gone","_law_following"] (spNu K cT):=by
 refine F.ok scNu (fun vs H Q E h=>?_) (fun cdv A outer s H vs Q E hr h=>?_)
 ·obtain⟨a,t,ns,C,u,rr,md,cr,g,fo,rfl,_⟩:=h
  rfl
 ·obtain⟨a,t,ns,C,u,rr,md,cr,g,fo,rfl,hS,hD,hT,hno,q⟩:=h
  obtain⟨e0,e1,e2,e3,e4,e5,e6,e7,e8,e9,p0,p1,p2,hB,h0,h1,h2,h3,h4,h5,h6,h7,h8,h9,w0,w1,w2,w3,w4,w5,w6,w7,w8,w9⟩:∃(e0 e1 e2 e3 e4 e5 e6 e7 e8 e9:Expr)(p0 p1 p2:Pos),defBody sNu=stAt 79 0::stAt 79 1:: .Assign [.Name "_law_things" p0] (.List [e0,e1,e2,e3,e4,e5,e6,e7,e8,e9] p1) p2::stAt 79 3::stAt 79 4::[]/\
    PE (cxOf CX0 P w K mg base nNu "_law_numbers_refused" (defScope sNu) f cdv A outer s H E).nox e0 (tVar 2)/\PE (cxOf CX0 P w K mg base nNu "_law_numbers_refused" (defScope sNu) f cdv A outer s H E).nox e1 (tVar 3)/\PE (cxOf CX0 P w K mg base nNu "_law_numbers_refused" (defScope sNu) f cdv A outer s H E).nox e2 (tUn (rU fun i=> .int (-i)) (tC (.int 1)))/\
    PE (cxOf CX0 P w K mg base nNu "_law_numbers_refused" (defScope sNu) f cdv A outer s H E).nox e3 (tVar 5)/\PE (cxOf CX0 P w K mg base nNu "_law_numbers_refused" (defScope sNu) f cdv A outer s H E).nox e4 (tC (.bl true))/\PE (cxOf CX0 P w K mg base nNu "_law_numbers_refused" (defScope sNu) f cdv A outer s H E).nox e5 (tC (.bl false))/\PE (cxOf CX0 P w K mg base nNu "_law_numbers_refused" (defScope sNu) f cdv A outer s H E).nox e6 (tC .non)/\
    PE (cxOf CX0 P w K mg base nNu "_law_numbers_refused" (defScope sNu) f cdv A outer s H E).nox e7 (tC (.str "0"))/\PE (cxOf CX0 P w K mg base nNu "_law_numbers_refused" (defScope sNu) f cdv A outer s H E).nox e8 (tTupS (tCons (tC (.int 0)) tNil))/\PE (cxOf CX0 P w K mg base nNu "_law_numbers_refused" (defScope sNu) f cdv A outer s H E).nox e9 (tLstS (tCons (tC (.int 0)) tNil))/\
    plainE e0=true/\plainE e1=true/\plainE e2=true/\plainE e3=true/\plainE e4=true/\plainE e5=true/\plainE e6=true/\plainE e7=true/\plainE e8=true/\plainE e9=true:=
   ⟨_,_,_,_,_,_,_,_,_,_,_,_,_,rfl,pv 2,pv 3,pe_un un_neg pe_int,pv 5,pe_bl,pe_bl,pe_non,pe_str,pe_tupS (pa_c pe_int pa_nil),pe_lstS (pa_c pe_int pa_nil),rfl,rfl,rfl,rfl,rfl,rfl,rfl,rfl,rfl,rfl⟩
  rw[hB]
  refine⟨_,pss_cons (ps_set (i:=4) scNu.nd rfl (Or.inl rfl) (pe_lstS (pa_c (pe_lstS (pa_c pe_bl (pa_c pe_bl (pa_c pe_bl (pa_c pe_bl (pa_c pe_bl pa_nil)))))) (pa_c pe_int pa_nil))))
   (pss_cons (ps_set (i:=5) scNu.nd rfl (Or.inl rfl) (pe_op op_add (pv 3) (pe_op op_mod (pe_fc FD hr (pa_c (pv 0) (pa_c pe_int pa_nil))) (pe_op op_pow pe_int pe_int))))
   (pss_cons (ps_set (i:=6) scNu.nd rfl (Or.inl rfl) (pe_lstS (@pa_c _ _ _ _ _ h0 (@pa_c _ _ _ _ _ h1 (@pa_c _ _ _ _ _ h2 (@pa_c _ _ _ _ _ h3 (@pa_c _ _ _ _ _ h4 (@pa_c _ _ _ _ _ h5 (@pa_c _ _ _ _ _ h6 (@pa_c _ _ _ _ _ h7 (@pa_c _ _ _ _ _ h8 (@pa_c _ _ _ _ _ h9 pa_nil w9) w8) w7) w6) w5) w4) w3) w2) w1) w0)))
   (pss_cons (ps_for PassesOwn.never rfl (pi_range1 rfl T.range (pa_c (pe_callB call_len_seq rfl T.len bLen (pa_c (pv 6) pa_nil)) pa_nil)) (pg_name (i:=7) scNu.nd rfl (Or.inl rfl))
    (pss_cons (ps_set (i:=8) scNu.nd rfl (Or.inl rfl) (pe_ix ix_list (pe_lstS (pa_c pe_str (pa_c pe_str pa_nil))) (pe_op op_mod (pe_op op_add (pv 7) (pe_fc FD hr (pa_c (pv 0) (pa_c pe_int pa_nil)))) pe_int) (fun _ _=>rfl)))
    (pss_one (ps_if (pt_cmpR (op_neD hr) (pe_fc FRf hr (pa_c (pv 1) (pa_c (pv 8) (pa_c (pe_ix ix_list (pv 6) (pv 7) (fun _ _=>rfl)) (pa_c pe_non pa_nil))))) (pv 4) (nomark _)) (pss_one (ps_ret pe_bl)) pss_nil))))
   (pss_one (ps_ret pe_bl))))),?_⟩
  refine⟨rfl,fun r1 H1 s1 hr1=>⟨rfl,fun NT H2 s2 hNT=>?_⟩⟩
  have NZ:RfZ H2 NT false true false 0:=⟨r1,hNT,s2 _ _ hr1⟩
  have s02:=Same.trans s1 s2
  refine⟨_,rfl,_,rfl,a,ns,_,rfl,s02.seq hS,hD,by decide,by decide,10,9,rfl,rfl,⟨by decide,by decide,by decide⟩,_,_,rfl,rfl,(by show(0:Int)<10^(9:Int).toNat;decide),_,_,rfl,rfl,?_⟩
  have far0:0<=draw ns 30%(10:Int)^(9:Int).toNat:=Int.emod_nonneg _ (by decide)
  generalize draw ns 30%(10:Int)^(9:Int).toNat=far at far0
  refine⟨_,rfl,_,rfl,_,rfl,_,rfl,rfl,fun a1 H3 s3 ha1=>⟨rfl,fun a2 H4 s4 ha2=>⟨rfl,fun L H5 s5 hL=>?_⟩⟩⟩
  have s25:Same H2 H5:=Same.trans s3 (Same.trans s4 s5)
  have th:∀j:Nat,j<10->∃v,[V.int g,.int fo,.int (-1),.int (fo+far),.bl true,.bl false,.non,.str "0",.ref a1,.ref a2][j]?=some v/\Kn H5 v/\NoNo rr v:=fun j hj=>by
   match j,hj with
   |0,_=>exact⟨_,rfl,.int _,fun i e y hy=>by cases e;exact(hno y hy).1⟩
   |1,_=>exact⟨_,rfl,.int _,fun i e y hy=>by cases e;have:=(hno y hy).2;omega⟩
   |2,_=>exact⟨_,rfl,.int _,fun i e y hy=>by cases e;omega⟩
   |3,_=>exact⟨_,rfl,.int _,fun i e y hy=>by cases e;have:=(hno y hy).2;omega⟩
   |4,_=>exact⟨_,rfl,.bl _,fun i e=>by cases e⟩
   |5,_=>exact⟨_,rfl,.bl _,fun i e=>by cases e⟩
   |6,_=>exact⟨_,rfl,.non,fun i e=>by cases e⟩
   |7,_=>exact⟨_,rfl,.str _,fun i e=>by cases e⟩
   |8,_=>exact⟨_,rfl,.tup (s5 _ _ (s4 _ _ ha1)),fun i e=>by cases e⟩
   |9,_=>exact⟨_,rfl,.lst (s5 _ _ ha2),fun i e=>by cases e⟩
  refine⟨_,rfl,L,_,rfl,.inl (SqL.of hL),_,rfl,(by show-(2^62:Int)<=((10:Nat):Int);decide),(by show((10:Nat):Int)<2^62;decide),for_range (lo:=0) (n:=10) (fun i σ G=>(∃v7 v8,σ=[some (.ref a),some (.ref t),some (.int g),some (.int fo),some (.ref NT),some (.int (fo+far)),some (.ref L),v7,v8])/\Same H5 G)
   ⟨⟨_,_,rfl⟩,Same.refl _⟩ (fun i σ G hi xq1=>?_) (fun σ G xq1=>?_)⟩
  ·obtain⟨⟨v7,v8,e⟩,sG⟩:=xq1
   subst e
   rw[Int.zero_add]
   have s2G:=Same.trans s25 sG
   obtain⟨v,hv1,hv2,hv3⟩:=th i hi
   refine⟨rfl,fun wl G1 s6 hwl=>⟨_,rfl,_,rfl,a,ns,_,rfl,(Same.trans s02 (Same.trans s2G s6)).seq hS,hD,by decide,by decide,_,_,rfl,rfl,_,_,rfl,rfl,(by show(0:Int)<2;decide),?_⟩⟩
   have j0:=Int.emod_nonneg ((i:Int)+draw ns 31) (b:=2) (by decide)
   have j1:=Int.emod_lt_of_pos ((i:Int)+draw ns 31) (b:=2) (by decide)
   have s2a:=Same.trans s2G s6
   have fin:∀wy,RfC G1 u rr wy v .non false true false 0->tIfS (tTest (tOp (rNeD K false) (tCall (spRf cT) [] E0 (tCons (tVar 1) (tCons (tVar 8) (tCons (tOp (rIxL K) (tVar 6) (tVar 7)) (tCons (tC .non) tNil))))) (tVar 4))) (tRet (tC (.bl false))) tNext {nx:=fun σ G=>(∃v7 v8,σ=[some (.ref a),some (.ref t),some (.int g),some (.int fo),some (.ref NT),some (.int (fo+far)),some (.ref L),v7,v8])/\Same H5 G,rt:=Q} [some (.ref a),some (.ref t),some (.int g),some (.int fo),some (.ref NT),some (.int (fo+far)),some (.ref L),some (.int (i:Int)),some (.str wy)] G1:=fun wy hw=>?_
   ·have:((i:Int)+draw ns 31)%2=0\/((i:Int)+draw ns 31)%2=1:=by omega
    rcases this with e|e
    ·exact⟨wl,_,_,.str "hour",rfl,rfl,SqL.of hwl,(by rw[e];exact atI_nat (j:=0) rfl),fin _ (.hour (hv2.same (Same.trans sG s6)) hv3)⟩
    ·exact⟨wl,_,_,.str "leave",rfl,rfl,SqL.of hwl,(by rw[e];exact atI_nat (j:=1) rfl),fin _ (.leave (hv2.same (Same.trans sG s6)) hv3)⟩
   refine⟨_,rfl,_,rfl,_,rfl,_,rfl,L,_,_,v,rfl,rfl,SqL.of (s6 _ _ (sG _ _ hL)),atI_nat hv1,t,_,_,_,C,u,rr,md,cr,false,true,false,0,rfl,hT.same (Same.trans s02 s2a),hw,fun G4 lz s7 rz=>⟨_,rfl,RfZ.ne (K:=K) rz (NZ.keep (Same.trans s2a s7)) ⟨_,rfl,iteF ⟨⟨_,_,rfl⟩,Same.trans sG (Same.trans s6 s7)⟩⟩⟩⟩
  obtain⟨⟨v7,v8,e⟩,sG⟩:=xq1
  subst e
  exact q G (Same.trans s02 (Same.trans s25 sG))
abbrev sPs:Stmt:=top 80
def prs(k:Int):List (Str×Str):=if k=1 then[("ann","ben"),("cia","ben"),("cia","dan")]else[("ann","ben"),("ben","cia"),("dan","ann")]
def PrAt(H:Hp)(l:Addr)(ps:List (Str×Str)):Prop:=∃as:List Addr,H l=some (.lst (as.map V.ref))/\∀(i:Nat) p,ps[i]?=some p->∃b,as[i]?=some b/\H b=some (.tup [.str p.1,.str p.2])
theorem PrAt.same{H H':Hp}{l:Addr}{ps:List (Str×Str)}(h:PrAt H l ps)(s:Keeps H H'):PrAt H' l ps:=
 let⟨as,h1,h2⟩:=h;⟨as,s _ _ h1 trivial,fun i p e=>let⟨b,h3,h4⟩:=h2 i p e;⟨b,h3,s _ _ h4 trivial⟩⟩
theorem PrAt.mk3{H:Hp}{l a b c:Addr}{p q r:Str×Str}(h:H l=some (.lst [.ref a,.ref b,.ref c]))(h1:H a=some (.tup [.str p.1,.str p.2]))(h2:H b=some (.tup [.str q.1,.str q.2]))(h3:H c=some (.tup [.str r.1,.str r.2])):PrAt H l [p,q,r]:=
 ⟨[a,b,c],h,fun i x e=>by
  match i,e with
  |0,e=>cases e;exact⟨a,rfl,h1⟩
  |1,e=>cases e;exact⟨b,rfl,h2⟩
  |2,e=>cases e;exact⟨c,rfl,h3⟩⟩
inductive spPs(vs:List V)(H:Hp)(Q:VK)(_z3:XK):Prop
 |mk (k:Int) (_:vs=[.int k]) (_:∀H' l,Same H H'->PrAt H' l (prs k)->Q (.ref l) H')
theorem scPs:FnScope ["_law_kind"] ["_law_kind"] (defScope sPs):=⟨rfl,rfl,rfl,by decide+kernel,rfl,by decide+kernel,by decide+kernel⟩
theorem ok_ps{f:Addr}{fd:FuncData}(F:Fun K "_law_pairs" "_law_pairs" sPs f fd):FnOk P w K mg base CX0 1 f fd ["_law_kind"] spPs:=by
 refine F.ok scPs (fun vs H Q E h=>?_) (fun cdv A outer s H vs Q E hr h=>?_)
 ·obtain⟨k,rfl,_⟩:=h
  rfl
 ·obtain⟨k,rfl,q⟩:=h
  refine⟨_,pss_cons (ps_if (pt_cmpR op_eq (pv 0) pe_int (nomark _)) (pss_one (ps_ret (pe_lstS (pa_c (pe_tupS (pa_c pe_str (pa_c pe_str pa_nil))) (pa_c (pe_tupS (pa_c pe_str (pa_c pe_str pa_nil))) (pa_c (pe_tupS (pa_c pe_str (pa_c pe_str pa_nil))) pa_nil)))))) pss_nil)
   (pss_one (ps_ret (pe_lstS (pa_c (pe_tupS (pa_c pe_str (pa_c pe_str pa_nil))) (pa_c (pe_tupS (pa_c pe_str (pa_c pe_str pa_nil))) (pa_c (pe_tupS (pa_c pe_str (pa_c pe_str pa_nil))) pa_nil)))))),?_⟩
  refine⟨_,rfl,rfl,_,rfl,ite2 (fun z=>?_) (fun z=>?_)⟩
  ·have e:k=1:=V.int.inj (of_decide_eq_true z)
   refine⟨rfl,fun a1 H1 s1 h1=>⟨rfl,fun a2 H2 s2 h2=>⟨rfl,fun a3 H3 s3 h3=>⟨rfl,fun l H4 s4 hl=>q H4 l (Same.trans s1 (Same.trans s2 (Same.trans s3 s4))) ?_⟩⟩⟩⟩
   rw[prs,if_pos e]
   exact .mk3 hl (s4 _ _ (s3 _ _ (s2 _ _ h1))) (s4 _ _ (s3 _ _ h2)) (s4 _ _ h3)
  ·have e:¬k=1:=fun e=>z (decide_eq_true (by rw[e]))
   refine⟨rfl,fun a1 H1 s1 h1=>⟨rfl,fun a2 H2 s2 h2=>⟨rfl,fun a3 H3 s3 h3=>⟨rfl,fun l H4 s4 hl=>q H4 l (Same.trans s1 (Same.trans s2 (Same.trans s3 s4))) ?_⟩⟩⟩⟩
   rw[prs,if_neg e]
   exact .mk3 hl (s4 _ _ (s3 _ _ (s2 _ _ h1))) (s4 _ _ (s3 _ _ h2)) (s4 _ _ h3)
abbrev sLe:Stmt:=top 81
abbrev nLe:List Str:=["_law_k","_law_letters"]
def two(k:Nat):Str:=(⟨#[97+k%26]⟩:Str)++⟨#[97+k/26]⟩
theorem two_ok:∀k:Fin 61,nameB (two k.val)=true:=by decide+kernel
theorem two_inj{i j:Nat}(e:two i=two j):i=j:=by
 have e1:=congrArg (fun z:Str=>z.cps.toList) e
 have e2:[97+i%26,97+i/26]=[97+j%26,97+j/26]:=e1
 simp only[List.cons.injEq]at e2
 omega
inductive spLe(vs:List V)(H:Hp)(Q:VK)(_z3:XK):Prop
 |mk (k:Nat) (_:vs=[.int (k:Int)]) (_:k<676) (_:Q (.str (two k)) H)
theorem scLe:FnScope nLe ["_law_k"] (defScope sLe):=⟨rfl,rfl,rfl,by decide+kernel,rfl,by decide+kernel,by decide+kernel⟩
theorem let_at:∀k:Fin 26,letters.cps.toList[k.val]?=some (97+k.val):=by decide+kernel
theorem let_nat{k:Nat}(h:k<26):atI letters.cps.toList (k:Int)=some (97+k):=atI_nat (let_at ⟨k,h⟩)
theorem ok_le{f:Addr}{fd:FuncData}(F:Fun K "_law_letter" "_law_letter" sLe f fd):FnOk P w K mg base CX0 1 f fd ["_law_k"] spLe:=by
 refine F.ok scLe (fun vs H Q E h=>?_) (fun cdv A outer s H vs Q E hr h=>?_)
 ·obtain⟨k,rfl,_⟩:=h
  rfl
 ·obtain⟨k,rfl,hk,q⟩:=h
  refine⟨_,pss_cons (ps_set (i:=1) scLe.nd rfl (Or.inl rfl) pe_str) (pss_one (ps_ret (pe_op op_add_str (pe_ix ix_str (pv 1) (pe_op op_mod (pv 0) pe_int) (fun _ _=>rfl)) (pe_ix ix_str (pv 1) (pe_op op_fdiv (pv 0) pe_int) (fun _ _=>rfl))))),?_⟩
  have e1:(k:Int)%26=((k%26:Nat):Int):=by omega
  have e2:(k:Int)/26=((k/26:Nat):Int):=by omega
  exact⟨_,rfl,_,rfl,_,_,rfl,rfl,(by show(0:Int)<26;decide),letters,_,97+k%26,rfl,rfl,leMil (by decide+kernel),by rw[e1];exact let_nat (by omega),_,rfl,_,rfl,_,_,rfl,rfl,⟨by decide,by decide⟩,letters,_,97+k/26,rfl,rfl,leMil (by decide+kernel),by rw[e2];exact let_nat (by omega),_,_,rfl,rfl,leMil (show 1+1<=100000 by decide),q⟩
end
theorem addNs_pre(u ns:List Str):∃x,addNs u ns=u++x:=by
 unfold addNs
 induction ns generalizing u with
 |nil=>exact⟨[],(List.append_nil _).symm⟩
 |cons z ns ih=>
  obtain⟨x,hx⟩:=ih (addN u z)
  rw[List.foldl_cons,hx]
  unfold addN
  split
  ·exact⟨x,rfl⟩
  ·exact⟨[z]++x,List.append_assoc _ _ _⟩
theorem idx_new{u ns:List Str}{a:Str}(h:a ∉ u)(hm:a∈addNs u ns):u.length<=idx (addNs u ns) a:=by
 have h1:=idx_at hm
 rcases Nat.lt_or_ge (idx (addNs u ns) a) u.length with z|z
 ·obtain⟨x,hx⟩:=addNs_pre u ns
  generalize idx (addNs u ns) a=i at h1 z
  rw[hx,List.getElem?_append_left z]at h1
  exact absurd (List.mem_of_getElem? h1) h
 ·exact z
theorem dg_new{es:List (Nat×Nat)}{e:Nat×Nat}{p n:Nat}(h:∀x∈es,x.1<n/\x.2<n) (hp:n<=p):dg (es++[e]) (es.length+1) p<=1:=by
 have z:∀k,k<=es.length->dg (es++[e]) k p=0:=by
  intro k
  induction k with
  |zero=>intro _;rfl
  |succ k ih=>
   intro hk
   rw[dg_succ,ih (by omega),List.getD_eq_getElem?_getD,List.getElem?_append_left (by omega),List.getElem?_eq_getElem (by omega)]
   have:=h es[k] (List.getElem_mem _)
   have n1:¬atB es[k] p=true:=fun q=>by
    rcases atB_iff.mp q with q|q<;>omega
   rw[show(some es[k]).getD (0,0)=es[k]from rfl,if_neg n1]
 rw[dg_succ,z _ (Nat.le_refl _)]
 split<;>simp
structure WayG(W:WayF):Prop where
 grow:∀(es:List (Nat×Nat))(e:Nat×Nat)(n:Nat),(∀x∈es,x.1<n/\x.2<n)->e.1≠e.2->(n<=e.1\/n<=e.2)->W.ok es->W.ok (es++[e])
 sub:∀{es es':List (Nat×Nat)},es'.Sublist es->W.ok es->W.ok es'
 ge:∀M:Int,1<=M->M<=W.nd M
 nil:W.ok []
theorem twin_pw{es:List (Nat×Nat)}:¬Twin es↔es.Pairwise fun x y=>nrm x≠nrm y:=by
 rw[List.pairwise_iff_getElem]
 refine⟨fun h i j hi hj hij e=>h ⟨i,j,hij,hj,?_⟩,fun h⟨i,j,hij,hj,e⟩=>h i j (by omega) hj hij ?_⟩
 ·rw[List.getD_eq_getElem?_getD,List.getD_eq_getElem?_getD,List.getElem?_eq_getElem hi,List.getElem?_eq_getElem hj]
  exact e
 ·rw[List.getD_eq_getElem?_getD,List.getD_eq_getElem?_getD,List.getElem?_eq_getElem (by omega),List.getElem?_eq_getElem hj]at e
  exact e
theorem W0.g:WayG W0:=⟨fun _ _ _ _ _ _ _=>trivial,fun _ _=>trivial,fun M h=>by show M<=g0 M;unfold g0;split<;>omega,trivial⟩
theorem W3.g:WayG W3:=⟨fun _ _ _ _ _ _ _=>trivial,fun _ _=>trivial,fun M h=>by show M<=g3 M;unfold g3;omega,trivial⟩
theorem W1.g:WayG W1:=by
 refine⟨fun es e n h ne hf xq1=>?_,fun s⟨col,hc⟩=>⟨col,fun e he=>hc e (s.subset he)⟩,fun M h=>Int.le_refl _,fun _=>false,fun e he=>by cases he⟩
 obtain⟨col,hc⟩:=xq1
 rcases hf with hf|hf
 ·refine⟨fun p=>if p=e.1 then !(col e.2)else col p,fun x hx=>?_⟩
  rcases List.mem_append.mp hx with q|q
  ·have:=h x q
   show(if x.1=e.1 then _ else _)≠(if x.2=e.1 then _ else _)
   rw[if_neg (by omega),if_neg (by omega)]
   exact hc x q
  ·cases List.mem_singleton.mp q
   show(if e.1=e.1 then _ else _)≠(if e.2=e.1 then _ else _)
   rw[if_pos rfl,if_neg (fun z=>ne z.symm)]
   cases col e.2<;>decide
 ·refine⟨fun p=>if p=e.2 then !(col e.1)else col p,fun x hx=>?_⟩
  rcases List.mem_append.mp hx with q|q
  ·have:=h x q
   show(if x.1=e.2 then _ else _)≠(if x.2=e.2 then _ else _)
   rw[if_neg (by omega),if_neg (by omega)]
   exact hc x q
  ·cases List.mem_singleton.mp q
   show(if e.1=e.2 then _ else _)≠(if e.2=e.2 then _ else _)
   rw[if_pos rfl,if_neg ne]
   cases col e.1<;>decide
theorem W2.g:WayG W2:=by
 refine⟨fun es e n h ne hf ht=>twin_pw.mpr ?_,fun s ht=>twin_pw.mpr ((twin_pw.mp ht).sublist s),fun M h=>by show M<=g2 M;unfold g2;split<;>omega,twin_pw.mpr .nil⟩
 rw[List.pairwise_append]
 refine⟨twin_pw.mp ht,List.pairwise_singleton _ _,fun x hx y hy=>?_⟩
 cases List.mem_singleton.mp hy
 have:=h x hx
 unfold nrm
 intro z
 have z1:=congrArg Prod.fst z
 have z2:=congrArg Prod.snd z
 simp only at z1 z2
 omega
theorem esR_lt{u:List Str}{rr:Rws'}{md cr:Nat}(O:TbOk u rr md cr):∀x∈esR rr,x.1<u.length/\x.2<u.length:=fun x hx=>by
 obtain⟨y,hy,rfl⟩:=List.mem_map.mp hx
 have:=O.en y hy
 exact⟨this.1,this.2.1⟩
theorem MeOk.fresh{W:WayF}{u:List Str}{rr:Rws'}{md cr:Nat}{a b:Str}(G:WayG W)(O:TbOk u rr md cr)(na:nameB a=true)(nb:nameB b=true)(ne:a≠b)(hu:u.length<=58)(hr:rr.length<200)(ho:W.ok (esR rr))(hf:a ∉ u\/b ∉ u):MeOk W u rr md cr a b:=by
 have ha:a∈addNs u [a,b]:=mem_addNs.mpr (.inr (.head _))
 have hb:b∈addNs u [a,b]:=mem_addNs.mpr (.inr (.tail _ (.head _)))
 have hl:=len_addNs (acc:=u) (ws:=[a,b])
 have hL:([a,b]:List Str).length=2:=rfl
 have hi:u.length<=idx (addNs u [a,b]) a\/u.length<=idx (addNs u [a,b]) b:=hf.imp (fun h=>idx_new h ha) (fun h=>idx_new h hb)
 refine⟨O,na,nb,ne,by omega,hr,G.grow _ _ _ (esR_lt O) (fun z=>ne (idx_inj ha hb z)) hi ho,fun M h1 h2=>?_⟩
 have one:∀p,At (idx (addNs u [a,b]) a,idx (addNs u [a,b]) b) p->1<=dg (esR rr++[(idx (addNs u [a,b]) a,idx (addNs u [a,b]) b)]) (rr.length+1) p:=fun p hp=>by
  rw[dg_succ,<-esR_len rr,es_last,if_pos (atB_iff.mpr hp)]
  simp
 have d1:=one (idx (addNs u [a,b]) a) (.inl rfl)
 have d2:=one (idx (addNs u [a,b]) b) (.inr rfl)
 have g:=G.ge M (by omega)
 rcases hi with z|z
 ·have:=dg_new (e:=(idx (addNs u [a,b]) a,idx (addNs u [a,b]) b)) (esR_lt O) z
  rw[esR_len]at this
  omega
 ·have:=dg_new (e:=(idx (addNs u [a,b]) a,idx (addNs u [a,b]) b)) (esR_lt O) z
  rw[esR_len]at this
  omega
theorem MeOk.way{u:List Str}{rr:Rws'}{md cr:Nat}{a b:Str}(O:TbOk u rr md cr)(na:nameB a=true)(nb:nameB b=true)(ne:a≠b)(hu:(addNs u [a,b]).length<=60)(hr:rr.length<200):MeOk W0 u rr md cr a b:=by
 refine⟨O,na,nb,ne,hu,hr,trivial,fun M h1 h2=>?_⟩
 have:2*M<=W0.nd M+1:=by show 2*M<=g0 M+1;unfold g0;split<;>omega
 omega
theorem TbOk.filter{u:List Str}{rr:Rws'}{md cr:Nat}(O:TbOk u rr md cr)(f:Addr×Rw->Bool):TbOk u (rr.filter f) md cr:=
 ⟨O.nd.sublist (List.filter_sublist.map _),fun x hx=>O.lt x (List.mem_filter.mp hx).1,fun x hx=>O.en x (List.mem_filter.mp hx).1,O.u60,Nat.le_trans (List.length_filter_le _ _) O.r200,O.und,O.unm,O.cl.sublist List.filter_sublist,O.c200,fun x hx=>O.hr x (List.mem_filter.mp hx).1⟩
theorem TbOk.zero:TbOk [] [] 0 0:=⟨.nil,(fun x h=>by cases h),(fun x h=>by cases h),by decide,by decide,.nil,(fun z h=>by cases h),.nil,by decide,(fun x h=>by cases h)⟩
theorem nd_le:∀{u L:List Str},u.Nodup->(∀z∈u,z∈L)->u.length<=L.length
 |[],L,_,_=>Nat.zero_le _
 |z::u,L,h,hs=>by
  have hz:=hs z (.head _)
  rw[List.nodup_cons]at h
  have:=nd_le (u:=u) (L:=L.erase z) h.2 fun y hy=>(List.mem_erase_of_ne (fun e:y=z=>h.1 (e▸hy))).mpr (hs y (.tail _ hy))
  rw[List.length_erase_of_mem hz]at this
  have:=List.length_pos_of_mem hz
  rw[List.length_cons]
  omega
theorem two_add(i:Nat):addNs ((List.range (2*i)).map two) [two (2*i),two (2*i+1)]=(List.range (2*(i+1))).map two:=by
 have n1:∀n,two n ∉ (List.range n).map two:=fun n h=>by
  obtain⟨j,hj,e⟩:=List.mem_map.mp h
  have:=two_inj e
  rw[List.mem_range]at hj
  omega
 have st:∀n,addN ((List.range n).map two) (two n)=(List.range (n+1)).map two:=fun n=>by
  unfold addN
  rw[if_neg (n1 n),List.range_succ,List.map_append]
  rfl
 show addN (addN _ _) _=_
 rw[st,st]
 rfl
def Wy(c0 c1 c2 c3 C:Addr)(W:WayF):Prop:=(C=c0/\W=W0)\/(C=c1/\W=W1)\/(C=c2/\W=W2)\/(C=c3/\W=W3)
def spMeA(cT c0 c1 c2 c3:Addr):Sp:=fun vs H Q E=>∃C W,Wy c0 c1 c2 c3 C W/\spMe cT C W vs H Q E
def spInA(cT:Addr):Sp:=fun vs H Q E=>∃C,spIn cT C vs H Q E
def spTxA(cT:Addr):Sp:=fun vs H Q E=>∃C,spTx cT C vs H Q E
def spDyA(cT:Addr):Sp:=fun vs H Q E=>∃C,spDy cT C vs H Q E
def spLvA(cT:Addr):Sp:=fun vs H Q E=>∃C,spLv cT C vs H Q E
structure TbF(P:Program)(w:World)(K:PySem.W.Frag)(mg:Str->Option Value)(base:Heap)(cT c0 c1 c2 c3:Addr):Prop where
 gT:mg "Table"=some (.ref cT)
 gW:mg "Way"=some (.ref c0)
 mW:Mk0 K c0
 ma:∃fI fdI,Mk K cT fI/\FnOk P w K mg base CX0 9 fI fdI ["self","way"] (spInA cT)/\Binds K fdI ["self","way"] []
 me:MeE P w K mg base cT "meet" ["self","one","other"] 10 (spMeA cT c0 c1 c2 c3)
 lv:MeE P w K mg base cT "leave" ["self","number"] 10 (spLvA cT)
theorem tab_new{cT C wy dw x dx:Addr}{H1:Hp}{Q:VK}(hw:H1 wy=some (.ins C dw []))(hx:H1 x=none)(hdx:H1 dx=none)(q:∀H',Same H1 H'->TabZ cT C H' x [] [] 0 0->Q .non H'):
  spInA cT [.ref x,.ref wy] (upd (upd H1 dx (.own x)) x (.ins cT dx [])) Q E0:=by
 have nx:x≠wy:=fun z=>by rw[z,hw]at hx;cases hx
 have s:∀b o,H1 b=some o->(upd (upd H1 dx (.own x)) x (.ins cT dx [])) b=some o/\b≠x:=fun b o e=>by
  have n1:b≠x:=fun z=>by rw[z,hx]at e;cases e
  have n2:b≠dx:=fun z=>by rw[z,hdx]at e;cases e
  exact⟨by rw[upd_ne n1,upd_ne n2];exact e,n1⟩
 exact⟨C,x,wy,dx,dw,rfl,upd_same,(s _ _ hw).1,nx,fun H' hk hT=>q H' (fun b o e=>hk b o (s b o e).2 (s b o e).1) hT⟩
section
variable{P:Program}{w:World}{K:PySem.W.Frag}{mg:Str->Option Value}{base:Heap}{cT cM cN cG c0 c1 c2 c3:Addr}
abbrev sMn:Stmt:=top 82
abbrev nMn:List Str:=["_law_table","_law_k","_law_great","_law_no_name_here"]
def spMn:Sp:=fun vs H Q _=>vs=[]/\∀H',Keeps H H'->Q (.bl true) H'
theorem scMn:FnScope nMn [] (defScope sMn):=⟨rfl,rfl,rfl,by decide+kernel,rfl,by decide+kernel,by decide+kernel⟩
theorem mn1:60<(addNs ((List.range 60).map two) [Str.ofString "zoe",two 0]).length:=by decide+kernel
theorem mn2:60<(addNs ((List.range 60).map two) [Str.ofString "a",Str.ofString "b"]).length:=by decide+kernel
theorem mn3:(addNs ((List.range 60).map two) [two 59,two 0]).length<=60:=by decide+kernel
theorem mn4:Str.ofString "zoe" ∉ (List.range 60).map two:=by decide+kernel
theorem mn5:Str.ofString "zoe"≠two 0:=by decide+kernel
theorem mn6:nameB (Str.ofString "zoe")=true:=by decide+kernel
theorem mn7:Str.ofString "a"≠Str.ofString "b":=by decide+kernel
theorem ok_mn{f:Addr}{fd:FuncData}(F:Fun K "_law_many_names" "_law_many_names" sMn f fd)(T:Bi mg)(B:TbF P w K mg base cT c0 c1 c2 c3)(FL:FnE P w K mg base "_law_letter" ["_law_k"] 10 spLe)(FRf:FnE P w K mg base "_law_refused" ["_law_table","_law_way","_law_one","_law_other"] 10 (spRf cT)):FnOk P w K mg base CX0 11 f fd [] spMn:=by
 obtain⟨fI,fdI,mI,FI,bI⟩:=B.ma
 refine F.ok scMn (fun vs H Q E h=>?_) (fun cdv A outer s H vs Q E hr h=>?_)
 ·obtain⟨rfl,_⟩:=h
  rfl
 ·obtain⟨rfl,q⟩:=h
  refine⟨_,pss_cons (ps_set (i:=0) scMn.nd rfl (Or.inl rfl) (pe_make mI FI hr rfl B.gT bI .nil pass0 (pa_c (pe_new B.mW rfl B.gW) pa_nil)))
   (pss_cons (ps_for PassesOwn.never rfl (pi_range1 rfl T.range (pa_c pe_int pa_nil)) (pg_name (i:=1) scMn.nd rfl (Or.inl rfl))
    (pss_one (ps_expr (pe_me B.me hr (pv 0) (pa_c (pe_fc FL hr (pa_c (pe_op op_mul pe_int (pv 1)) pa_nil)) (pa_c (pe_fc FL hr (pa_c (pe_op op_add (pe_op op_mul pe_int (pv 1)) pe_int) pa_nil)) pa_nil))))))
   (pss_cons (ps_set (i:=2) scMn.nd rfl (Or.inl rfl) (pe_lstS (pa_c (pe_lstS (pa_c pe_bl (pa_c pe_bl (pa_c pe_bl (pa_c pe_bl (pa_c pe_bl pa_nil)))))) (pa_c pe_int pa_nil))))
   (pss_cons (ps_if (PW.pt (pw_or (pt_cmpR (op_neD hr) (pe_fc FRf hr (pa_c (pv 0) (pa_c pe_str (pa_c pe_str (pa_c (pe_fc FL hr (pa_c pe_int pa_nil)) pa_nil))))) (pv 2) (nomark _)) (pw_or1 (pt_cmpR (op_neD hr) (pe_fc FRf hr (pa_c (pv 0) (pa_c pe_str (pa_c pe_str (pa_c pe_str pa_nil))))) (pv 2) (nomark _))))) (pss_one (ps_ret pe_bl)) pss_nil)
   (pss_cons (ps_set (i:=3) scMn.nd rfl (Or.inl rfl) (pe_lstS (pa_c (pe_lstS (pa_c pe_bl (pa_c pe_bl (pa_c pe_bl (pa_c pe_bl (pa_c pe_bl pa_nil)))))) (pa_c pe_int pa_nil))))
   (pss_cons (ps_if (PW.pt (pw_or (pt_cmpR (op_neD hr) (pe_fc FRf hr (pa_c (pv 0) (pa_c pe_str (pa_c pe_str (pa_c pe_str pa_nil))))) (pv 3) (nomark _)) (pw_or1 (pt_cmpR (op_neD hr) (pe_fc FRf hr (pa_c (pv 0) (pa_c pe_str (pa_c pe_str (pa_c pe_non pa_nil))))) (pv 3) (nomark _))))) (pss_one (ps_ret pe_bl)) pss_nil)
   (pss_one (ps_ret (pe_cmpR op_eq (pe_ix ix_tup (pe_me B.me hr (pv 0) (pa_c (pe_fc FL hr (pa_c pe_int pa_nil)) (pa_c (pe_fc FL hr (pa_c pe_int pa_nil)) pa_nil))) pe_int (fun _ _=>rfl)) pe_int (nomark _))))))))),?_⟩
  intro xw dw hxw hdw hne t dx hx hdx hnd
  refine tab_new (cT:=cT) (C:=c0) (wy:=xw) (dw:=dw) upd_same hx hdx (fun H1 s1 hT0=>⟨rfl,?_⟩)
  clear hx hdx hnd
  have s0:Same H (upd (upd H dw (.own xw)) xw (.ins c0 dw [])):=(same_new hdw).wr hxw
  refine⟨30,rfl,by decide,by decide,for_range (lo:=0) (n:=(30:Int).toNat) (fun i σ G=>(∃v1,σ=[some (.ref t),v1,none,none])/\Keeps H1 G/\∃rr cr,TabZ cT c0 G t ((List.range (2*i)).map two) rr i cr/\TbOk ((List.range (2*i)).map two) rr i cr/\rr.length=i)
   ⟨⟨_,rfl⟩,Same.keeps (Same.refl _),[],0,hT0,TbOk.zero,rfl⟩ (fun i σ G hi xq1=>?_) (fun σ G xq1=>?_)⟩
  ·obtain⟨⟨v1,e⟩,kG,rr,cr,hT,O,hl⟩:=xq1
   subst e
   rw[Int.zero_add]
   have hi':i<30:=hi
   obtain⟨dx,wy,dw,dp,dt,dg,Z⟩:=id hT
   refine⟨_,rfl,t,dx,_,rfl,Z.t,rfl,_,rfl,_,_,rfl,rfl,.inl ⟨by decide,by decide⟩,2*i,congrArg (fun z=>[V.int z]) (by omega),by omega,_,rfl,_,_,rfl,rfl,.inl ⟨by decide,by decide⟩,_,_,rfl,rfl,2*i+1,congrArg (fun z=>[V.int z]) (by omega),by omega,?_⟩
   have ad:=two_add i
   refine⟨c0,W0,.inl ⟨rfl,rfl⟩,t,two (2*i),two (2*i+1),_,rr,i,cr,rfl,hT,.way O (two_ok ⟨2*i,by omega⟩) (two_ok ⟨2*i+1,by omega⟩) (fun z=>by have:=two_inj z;omega) (by rw[ad,List.length_map,List.length_range];omega) (by omega),fun H' p x c mv k hT' O' _ _ _=>?_⟩
   rw[ad]at hT' O'
   exact⟨⟨_,rfl⟩,kG.trans k,_,c,hT',O',by rw[List.length_append,hl];rfl⟩
  obtain⟨⟨v1,e⟩,kG,rr,cr,hT,O,hl⟩:=xq1
  subst e
  have hT:TabZ cT c0 G t ((List.range 60).map two) rr 30 cr:=hT
  have O:TbOk ((List.range 60).map two) rr 30 cr:=O
  have hl:rr.length=30:=hl
  have kH:Keeps H G:=(Same.keeps (Same.trans s0 s1)).trans kG
  have u60:((List.range 60).map two).length<=60:=by rw[List.length_map,List.length_range];omega
  refine⟨rfl,fun r1 G1 g1 hr1=>⟨rfl,fun NG G2 g2 hNG=>?_⟩⟩
  have NZ:RfZ G2 NG false false true 60:=⟨r1,hNG,g2 _ _ hr1⟩
  have s2:=Same.trans g1 g2
  refine⟨_,rfl,0,rfl,by decide,t,_,_,_,c0,_,rr,30,cr,false,false,true,60,rfl,hT.same s2,.meG u60 mn6 (two_ok ⟨0,by decide⟩) mn5 (.inl ⟨mn1,rfl⟩),fun G3 l3 g3 rz=>⟨_,rfl,RfZ.ne (K:=K) rz (NZ.keep g3) ⟨_,rfl,iteF ?_⟩⟩⟩
  have s3:=Same.trans s2 g3
  refine⟨_,rfl,t,_,_,_,c0,_,rr,30,cr,false,false,true,60,rfl,hT.same s3,.meG u60 (by decide+kernel) (by decide+kernel) mn7 (.inl ⟨mn2,rfl⟩),fun G4 l4 g4 rz=>⟨_,rfl,RfZ.ne (K:=K) rz (NZ.keep (Same.trans g3 g4)) ⟨_,rfl,iteF ?_⟩⟩⟩
  have s4:=Same.trans s3 g4
  refine⟨rfl,fun r5 G5 g5 hr5=>⟨rfl,fun NN G6 g6 hNN=>?_⟩⟩
  have NY:RfZ G6 NN true false false 0:=⟨r5,hNN,g6 _ _ hr5⟩
  have s6:=Same.trans s4 (Same.trans g5 g6)
  refine⟨_,rfl,t,_,_,_,c0,_,rr,30,cr,true,false,false,0,rfl,hT.same s6,.meN (.str _) (.str _) (by show Str.length _<=_;decide+kernel) (by show Str.length _<=_;decide+kernel) (.inr (.inl (by decide+kernel))),fun G7 l7 g7 rz=>⟨_,rfl,RfZ.ne (K:=K) rz (NY.keep g7) ⟨_,rfl,iteF ?_⟩⟩⟩
  have s7:=Same.trans s6 g7
  refine⟨_,rfl,t,_,_,_,c0,_,rr,30,cr,true,false,false,0,rfl,hT.same s7,.day (.str _) (by show Str.length _<=_;decide+kernel) (fun z e1 e2=>by cases e1;exact mn4),fun G8 l8 g8 rz=>⟨_,rfl,RfZ.ne (K:=K) rz (NY.keep (Same.trans g7 g8)) ⟨_,rfl,iteF ?_⟩⟩⟩
  have hT8:=hT.same (Same.trans s7 g8)
  obtain⟨dx,wy,dw,dp,dt,dg,Z⟩:=id hT8
  refine⟨_,rfl,t,dx,_,rfl,Z.t,rfl,59,rfl,by decide,0,rfl,by decide,c0,W0,.inl ⟨rfl,rfl⟩,t,two 59,two 0,_,rr,30,cr,rfl,hT8,.way O (two_ok ⟨59,by decide⟩) (two_ok ⟨0,by decide⟩) (by decide+kernel) mn3 (by omega),fun H' p x c mv k hT' O' _ _ hp=>?_⟩
  exact⟨p,_,0,_,rfl,rfl,SqT.of hp,atI_nat (j:=0) rfl,rfl,q H' (kH.trans ((Same.keeps (Same.trans s7 g8)).trans k))⟩
abbrev sMm:Stmt:=top 83
abbrev nMm:List Str:=["_law_table","_law_k","_law_great"]
theorem scMm:FnScope nMm [] (defScope sMm):=⟨rfl,rfl,rfl,by decide+kernel,rfl,by decide+kernel,by decide+kernel⟩
theorem mm1:Str.ofString "zoe" ∉ (List.range 20).map two:=by decide+kernel
theorem ok_mm{f:Addr}{fd:FuncData}(F:Fun K "_law_many_meetings" "_law_many_meetings" sMm f fd)(T:Bi mg)(B:TbF P w K mg base cT c0 c1 c2 c3)(FL:FnE P w K mg base "_law_letter" ["_law_k"] 10 spLe)(FRf:FnE P w K mg base "_law_refused" ["_law_table","_law_way","_law_one","_law_other"] 10 (spRf cT)):FnOk P w K mg base CX0 11 f fd [] spMn:=by
 obtain⟨fI,fdI,mI,FI,bI⟩:=B.ma
 refine F.ok scMm (fun vs H Q E h=>?_) (fun cdv A outer s H vs Q E hr h=>?_)
 ·obtain⟨rfl,_⟩:=h
  rfl
 ·obtain⟨rfl,q⟩:=h
  refine⟨_,pss_cons (ps_set (i:=0) scMm.nd rfl (Or.inl rfl) (pe_make mI FI hr rfl B.gT bI .nil pass0 (pa_c (pe_new B.mW rfl B.gW) pa_nil)))
   (pss_cons (ps_for PassesOwn.never rfl (pi_range1 rfl T.range (pa_c pe_int pa_nil)) (pg_name (i:=1) scMm.nd rfl (Or.inl rfl))
    (pss_one (ps_expr (pe_me B.me hr (pv 0) (pa_c (pe_fc FL hr (pa_c (pe_op op_mod (pv 1) pe_int) pa_nil)) (pa_c (pe_fc FL hr (pa_c (pe_op op_mod (pe_op op_add (pe_op op_add (pv 1) pe_int) (pe_op op_fdiv (pv 1) pe_int)) pe_int) pa_nil)) pa_nil))))))
   (pss_cons (ps_set (i:=2) scMm.nd rfl (Or.inl rfl) (pe_lstS (pa_c (pe_lstS (pa_c pe_bl (pa_c pe_bl (pa_c pe_bl (pa_c pe_bl (pa_c pe_bl pa_nil)))))) (pa_c pe_int pa_nil))))
   (pss_cons (ps_if (PW.pt (pw_or (pt_cmpR (op_neD hr) (pe_fc FRf hr (pa_c (pv 0) (pa_c pe_str (pa_c pe_str (pa_c (pe_fc FL hr (pa_c pe_int pa_nil)) pa_nil))))) (pv 2) (nomark _)) (pw_or1 (pt_cmpR (op_neD hr) (pe_fc FRf hr (pa_c (pv 0) (pa_c pe_str (pa_c pe_str (pa_c pe_str pa_nil))))) (pv 2) (nomark _))))) (pss_one (ps_ret pe_bl)) pss_nil)
   (pss_cons (ps_if (pt_cmpR (op_neD hr) (pe_fc FRf hr (pa_c (pv 0) (pa_c pe_str (pa_c pe_str (pa_c pe_non pa_nil))))) (pe_lstS (pa_c (pe_lstS (pa_c pe_bl (pa_c pe_bl (pa_c pe_bl (pa_c pe_bl (pa_c pe_bl pa_nil)))))) (pa_c pe_int pa_nil))) (nomark _)) (pss_one (ps_ret pe_bl)) pss_nil)
   (pss_cons (ps_expr (pe_me B.lv hr (pv 0) (pa_c pe_int pa_nil)))
   (pss_one (ps_ret (pe_cmpR op_eq (pe_ix ix_tup (pe_me B.me hr (pv 0) (pa_c pe_str (pa_c (pe_fc FL hr (pa_c pe_int pa_nil)) pa_nil))) pe_int (fun _ _=>rfl)) pe_int (nomark _))))))))),?_⟩
  intro xw dw hxw hdw hne t dx hx hdx hnd
  refine tab_new (cT:=cT) (C:=c0) (wy:=xw) (dw:=dw) upd_same hx hdx (fun H1 s1 hT0=>⟨rfl,?_⟩)
  clear hx hdx hnd
  have s0:Same H (upd (upd H dw (.own xw)) xw (.ins c0 dw [])):=(same_new hdw).wr hxw
  have um:∀{u:List Str}{rr:Rws'}{md cr:Nat},TbOk u rr md cr->(∀z∈u,z∈(List.range 20).map two)->u.length<=20:=fun O h=>by
   have:=nd_le O.und h
   rw[List.length_map,List.length_range]at this
   exact this
  refine⟨200,rfl,by decide,by decide,for_range (lo:=0) (n:=(200:Int).toNat) (fun i σ G=>(∃v1,σ=[some (.ref t),v1,none])/\Keeps H1 G/\∃u rr cr,TabZ cT c0 G t u rr i cr/\TbOk u rr i cr/\(∀z∈u,z∈(List.range 20).map two)/\rr.map (fun x=>x.2.no)=List.range i)
   ⟨⟨_,rfl⟩,Same.keeps (Same.refl _),[],[],0,hT0,TbOk.zero,(fun z h=>by cases h),rfl⟩ (fun i σ G hi xq1=>?_) (fun σ G xq1=>?_)⟩
  ·obtain⟨⟨v1,e⟩,kG,u,rr,cr,hT,O,hu,hl⟩:=xq1
   subst e
   rw[Int.zero_add]
   have hi':i<200:=hi
   have hll:rr.length=i:=by have:=congrArg List.length hl;rw[List.length_map,List.length_range]at this;exact this
   obtain⟨dx,wy,dw,dp,dt,dg,Z⟩:=id hT
   refine⟨_,rfl,t,dx,_,rfl,Z.t,rfl,_,rfl,_,_,rfl,rfl,(by show(0:Int)<20;decide),i%20,congrArg (fun z=>[V.int z]) (by omega),by omega,_,rfl,_,_,rfl,rfl,_,rfl,_,_,rfl,rfl,⟨by decide,by decide⟩,_,_,rfl,rfl,_,_,rfl,rfl,(by show(0:Int)<20;decide),(i+1+i/20)%20,congrArg (fun z=>[V.int z]) (by omega),by omega,?_⟩
   have u20:=um O hu
   have lad:=len_addNs (acc:=u) (ws:=[two (i%20),two ((i+1+i/20)%20)])
   have l2:([two (i%20),two ((i+1+i/20)%20)]:List Str).length=2:=rfl
   refine⟨c0,W0,.inl ⟨rfl,rfl⟩,t,two (i%20),two ((i+1+i/20)%20),u,rr,i,cr,rfl,hT,.way O (two_ok ⟨i%20,by omega⟩) (two_ok ⟨(i+1+i/20)%20,by omega⟩) (fun z=>by have:=two_inj z;omega) (by omega) (by omega),fun H' p x c mv k hT' O' hno _ _=>?_⟩
   refine⟨⟨_,rfl⟩,kG.trans k,_,_,c,hT',O',fun z hz=>?_,?_⟩
   ·rcases mem_addNs.mp hz with h|h
    ·exact hu z h
    ·simp only[List.mem_cons,List.not_mem_nil,or_false]at h
     rcases h with rfl|rfl
     ·exact List.mem_map.mpr ⟨_,List.mem_range.mpr (by omega),rfl⟩
     ·exact List.mem_map.mpr ⟨_,List.mem_range.mpr (by omega),rfl⟩
   ·rw[List.map_append,hl,List.range_succ,List.map_cons,List.map_nil,hno]
  obtain⟨⟨v1,e⟩,kG,u,rr,cr,hT,O,hu,hl⟩:=xq1
  subst e
  have hT:TabZ cT c0 G t u rr 200 cr:=hT
  have O:TbOk u rr 200 cr:=O
  have hl:rr.map (fun x=>x.2.no)=List.range 200:=hl
  have hll:rr.length=200:=by have:=congrArg List.length hl;rw[List.length_map,List.length_range]at this;exact this
  have kH:Keeps H G:=(Same.keeps (Same.trans s0 s1)).trans kG
  have u20:=um O hu
  have lad:∀a b:Str,(addNs u [a,b]).length<=60:=fun a b=>by
   have:=len_addNs (acc:=u) (ws:=[a,b])
   have l2:([a,b]:List Str).length=2:=rfl
   omega
  refine⟨rfl,fun r1 G1 g1 hr1=>⟨rfl,fun NG G2 g2 hNG=>?_⟩⟩
  have NZ:RfZ G2 NG false false true 200:=⟨r1,hNG,g2 _ _ hr1⟩
  have s2:=Same.trans g1 g2
  refine⟨_,rfl,0,rfl,by decide,t,_,_,_,c0,u,rr,200,cr,false,false,true,200,rfl,hT.same s2,.meG (by omega) (by decide+kernel) (two_ok ⟨0,by decide⟩) (by decide+kernel) (.inr ⟨lad _ _,by omega,rfl⟩),fun G3 l3 g3 rz=>⟨_,rfl,RfZ.ne (K:=K) rz (NZ.keep g3) ⟨_,rfl,iteF ?_⟩⟩⟩
  have s3:=Same.trans s2 g3
  refine⟨_,rfl,t,_,_,_,c0,u,rr,200,cr,false,false,true,200,rfl,hT.same s3,.meG (by omega) mn6 (by decide+kernel) (by decide+kernel) (.inr ⟨lad _ _,by omega,rfl⟩),fun G4 l4 g4 rz=>⟨_,rfl,RfZ.ne (K:=K) rz (NZ.keep (Same.trans g3 g4)) ⟨_,rfl,iteF ?_⟩⟩⟩
  have s4:=Same.trans s3 g4
  refine⟨_,rfl,t,_,_,_,c0,u,rr,200,cr,true,false,false,0,rfl,hT.same s4,.day (.str _) (by show Str.length _<=_;decide+kernel) (fun z e1 e2=>by cases e1;exact fun h=>mm1 (hu _ h)),fun G5 l5 g5 rz=>⟨rfl,fun r6 G6 g6 hr6=>⟨rfl,fun NN G7 g7 hNN=>RfZ.ne (K:=K) (rz.keep (Same.trans g6 g7)) ⟨r6,hNN,g7 _ _ hr6⟩ ⟨_,rfl,iteF ?_⟩⟩⟩⟩
  have s7:=Same.trans s4 (Same.trans g5 (Same.trans g6 g7))
  have hT7:=hT.same s7
  obtain⟨dx,wy,dw,dp,dt,dg,Z⟩:=id hT7
  have h7:∃x∈rr,x.2.no=7:=by
   have:7∈rr.map (fun x=>x.2.no):=by rw[hl];exact List.mem_range.mpr (by decide)
   exact List.mem_map.mp this
  refine⟨_,rfl,t,dx,_,rfl,Z.t,rfl,c0,t,u,rr,200,cr,7,rfl,hT7,h7,fun G8 k8 hT8=>?_⟩
  have O8:=O.filter fun x=>x.2.no !=7
  obtain⟨dx,wy,dw,dp,dt,dg,Z⟩:=id hT8
  have hlt:(rr.filter fun x=>x.2.no !=7).length<200:=by
   rw[<-hll]
   obtain⟨x,hx,e⟩:=h7
   exact List.length_filter_lt_length_iff_exists.mpr ⟨x,hx,by rw[e];decide⟩
  refine⟨_,rfl,t,dx,_,rfl,Z.t,rfl,0,rfl,by decide,c0,W0,.inl ⟨rfl,rfl⟩,t,_,two 0,u,_,200,cr,rfl,hT8,.way O8 (by decide+kernel) (two_ok ⟨0,by decide⟩) (by decide+kernel) (lad _ _) hlt,fun H' p x c mv k hT' O' _ _ hp=>?_⟩
  exact⟨p,_,0,_,rfl,rfl,SqT.of hp,atI_nat (j:=0) rfl,rfl,q H' (kH.trans ((Same.keeps s7).trans (k8.trans k)))⟩
end
end My
namespace L2
open PySem
theorem pe_fc0{X:Cx}{x:Str}{ps:List Str}{k:Nat}{sp:Sp}{p pos:Pos}(F:FnE X.prog X.w X.K X.mg X.base x ps k sp)(hr:Room k X.A)(hg:Gl X x:=by rfl)(hdb:(x==("__debug__":Str))=false:=by decide):PE X (.Call (.Name x p) [] [] pos) (tCall sp [] E0 tNil):=
 let⟨_,_,a,b,c,d⟩:=F.ex;pe_call0 a hr hg b c d .nil pass0 hdb
end L2
namespace My
open PySem L2 Tx
theorem ne_no{a:V}{A B:Prop}(h:B):if(!decide (a=a))=true then A else B:=by
 rw[decide_eq_true rfl]
 exact iteF h
theorem Keeps.seq{K:PySem.W.Frag}{H H':Hp}{a:Addr}{xs:List V}(e:Keeps H H')(h:SqL K H a xs):SqL K H' a xs:=by
 rcases h with(h|⟨o,h⟩)|h
 ·exact .inl (.inl (e _ _ h trivial))
 ·exact .inl (.inr ⟨o,e _ _ h trivial⟩)
 ·exact .inr h
def uP(ps:List (Str×Str))(i:Nat):List Str:=(ps.take i).foldl (fun u p=>addNs u [p.1,p.2]) []
theorem uP_succ{ps:List (Str×Str)}{i:Nat}{p:Str×Str}(h:ps[i]?=some p):uP ps (i+1)=addNs (uP ps i) [p.1,p.2]:=by
 unfold uP
 rw[List.take_succ,h,List.foldl_append]
 rfl
structure PrOk(ps:List (Str×Str)):Prop where
 at_:∀i,i<3->∃p,ps[i]?=some p/\nameB p.1=true/\nameB p.2=true/\p.1≠p.2/\(p.1 ∉ uP ps i\/p.2 ∉ uP ps i)/\(uP ps i).length<=58
 new:Str.ofString "newname" ∉ uP ps 3
 len:(uP ps 3).length<=58
theorem prs_ok(k:Int):PrOk (prs k):=by
 unfold prs
 split
 ·refine⟨fun i hi=>?_,by decide+kernel,by decide+kernel⟩
  match i,hi with
  |0,_=>exact⟨_,rfl,by decide+kernel,by decide+kernel,by decide+kernel,by decide+kernel,by decide+kernel⟩
  |1,_=>exact⟨_,rfl,by decide+kernel,by decide+kernel,by decide+kernel,by decide+kernel,by decide+kernel⟩
  |2,_=>exact⟨_,rfl,by decide+kernel,by decide+kernel,by decide+kernel,by decide+kernel,by decide+kernel⟩
 ·refine⟨fun i hi=>?_,by decide+kernel,by decide+kernel⟩
  match i,hi with
  |0,_=>exact⟨_,rfl,by decide+kernel,by decide+kernel,by decide+kernel,by decide+kernel,by decide+kernel⟩
  |1,_=>exact⟨_,rfl,by decide+kernel,by decide+kernel,by decide+kernel,by decide+kernel,by decide+kernel⟩
  |2,_=>exact⟨_,rfl,by decide+kernel,by decide+kernel,by decide+kernel,by decide+kernel,by decide+kernel⟩
section
variable{P:Program}{w:World}{K:PySem.W.Frag}{mg:Str->Option Value}{base:Heap}{cT cM cN cG c0 c1 c2 c3:Addr}
abbrev sLaw:Stmt:=top 84
abbrev nLaw:List Str:=["_law_script","_law_kind","_law_ways","_law_table","_law_pairs_here","_law_gone","_law_k","_law_held","_law_turn"]
inductive spLaw(K:PySem.W.Frag)(vs:List V)(H:Hp)(Q:VK)(_z3:XK):Prop
 |mk (a:Addr) (ns:List Int) (_:vs=[.ref a]) (_:SqL K H a (ns.map V.int)) (_:ns.length<=63) (_:∀H',Q (.bl true) H')
theorem scLaw:FnScope nLaw ["_law_script"] (defScope sLaw):=⟨rfl,rfl,rfl,by decide+kernel,rfl,by decide+kernel,by decide+kernel⟩
theorem ok_law{f:Addr}{fd:FuncData}(F:Fun K "law" "law" sLaw f fd)(T:Bi mg)(B:TbF P w K mg base cT c0 c1 c2 c3)(g1:mg "TwoSided"=some (.ref c1))(m1:Mk0 K c1)(g2:mg "Plain"=some (.ref c2))(m2:Mk0 K c2)(g3:mg "Manifold"=some (.ref c3))(m3:Mk0 K c3)
  (MT:MeE P w K mg base cT "text" ["self"] 11 (spTxA cT))(MD:MeE P w K mg base cT "day" ["self","name"] 11 (spDyA cT))(FD:FnE P w K mg base "_law_draw" ["_law_script","_law_k"] 11 (spDraw K))(FPs:FnE P w K mg base "_law_pairs" ["_law_kind"] 11 spPs)
  (FNr:FnE P w K mg base "_law_names_refused" ["_law_script","_law_table"] 11 (spNr K cT))(FNu:FnE P w K mg base "_law_numbers_refused" ["_law_script","_law_table","_law_gone","_law_following"] 11 (spNu K cT))(FMn:FnE P w K mg base "_law_many_names" [] 11 spMn)(FMm:FnE P w K mg base "_law_many_meetings" [] 11 spMn):FnOk P w K mg base CX0 12 f fd ["_law_script"] (spLaw K):=by
 obtain⟨fI,fdI,mI,FI,bI⟩:=B.ma
 refine F.ok scLaw (fun vs H Q E h=>?_) (fun cdv A outer s H vs Q E hr h=>?_)
 ·obtain⟨a,ns,rfl,_⟩:=h
  rfl
 ·obtain⟨a,ns,rfl,hS,hD,q⟩:=h
  have hD:Dr ns:=hD
  have hr10:Room 10 _:=hr.mono (by omega)
  obtain⟨tR,hR,rest⟩:∃t,PSs (cxOf CX0 P w K mg base nLaw "law" (defScope sLaw) f cdv A outer s H E).nox ((defBody sLaw).drop 11) t/\∀(v1 v2 v3 v4 v5 v6 v7 v8:Option V)(G:Hp),SqL K G a (ns.map V.int)->
    t {nx:=fun _ H'=>Q .non H',rt:=Q} [some (.ref a),v1,v2,v3,v4,v5,v6,v7,v8] G:=by
   refine⟨_,pss_cons (ps_if (PW.pt (pw_and (pt_cmpR op_eq (pe_op op_mod (pe_fc FD hr (pa_c (pv 0) (pa_c pe_int pa_nil))) pe_int) pe_int (nomark _)) (pw_and1 (pt_not (pt_val (pe_fc0 FMn hr)))))) (pss_one (ps_ret pe_bl)) pss_nil)
    (pss_one (ps_ret (pe_or (pe_cmpR op_ne (pe_op op_mod (pe_fc FD hr (pa_c (pv 0) (pa_c pe_int pa_nil))) pe_int) pe_int (nomark _)) (pe_one (pe_fc0 FMm hr))))),fun v1 v2 v3 v4 v5 v6 v7 v8 G hG=>?_⟩
   have fin:∀G1,SqL K G1 a (ns.map V.int)->tRet (tOrV (tOp rNe (tOp (rI (fun _ j=>0<j) fun i j=> .int (i%j)) (tCall (spDraw K) [] E0 (tCons (tVar 0) (tCons (tC (.int 3)) tNil))) (tC (.int 32))) (tC (.int 2))) (tCall spMn [] E0 tNil)) {nx:=fun _ H'=>Q .non H',rt:=Q} [some (.ref a),v1,v2,v3,v4,v5,v6,v7,v8] G1:=fun G1 h1=>by
    refine⟨_,rfl,a,ns,_,rfl,h1,hD,by decide,by decide,_,_,rfl,rfl,(by show(0:Int)<32;decide),rfl,_,rfl,ite2 (fun _=>q G1) (fun _=>⟨rfl,fun H' _=>q H'⟩)⟩
   refine⟨_,rfl,a,ns,_,rfl,hG,hD,by decide,by decide,_,_,rfl,rfl,(by show(0:Int)<8;decide),rfl,_,rfl,ite2 (fun _=>?_) (fun _=>iteF (fin G hG))⟩
   exact⟨rfl,fun G1 k1=>⟨_,rfl,iteF (fin G1 (k1.seq hG))⟩⟩
  obtain⟨r10,hb10,hr10'⟩:∃r10,defBody sLaw=stAt 84 0::stAt 84 1::stAt 84 2::stAt 84 3::stAt 84 4::stAt 84 5::stAt 84 6::stAt 84 7::stAt 84 8::stAt 84 9::stAt 84 10::r10/\(defBody sLaw).drop 11=r10:=⟨_,rfl,rfl⟩
  rw[hr10']at hR
  rw[hb10]
  refine⟨_,pss_cons (ps_set (i:=1) scLaw.nd rfl (Or.inl rfl) (pe_op op_mod (pe_fc FD hr (pa_c (pv 0) (pa_c pe_int pa_nil))) pe_int))
   (pss_cons (ps_set (i:=2) scLaw.nd rfl (Or.inl rfl) (pe_lstS (pa_c (pe_new B.mW rfl B.gW) (pa_c (pe_new m1 rfl g1) (pa_c (pe_new m2 rfl g2) (pa_c (pe_new m3 rfl g3) pa_nil))))))
   (pss_cons (ps_set (i:=3) scLaw.nd rfl (Or.inl rfl) (pe_make mI FI hr10 rfl B.gT bI .nil pass0 (pa_c (pe_ix ix_list (pv 2) (pv 1) (fun _ _=>rfl)) pa_nil)))
   (pss_cons (ps_set (i:=4) scLaw.nd rfl (Or.inl rfl) (pe_fc FPs hr (pa_c (pv 1) pa_nil)))
   (pss_cons (ps_set (i:=5) scLaw.nd rfl (Or.inl rfl) (pe_op op_mod (pe_fc FD hr (pa_c (pv 0) (pa_c pe_int pa_nil))) pe_int))
   (pss_cons (ps_for PassesOwn.never rfl (pi_range1 rfl T.range (pa_c pe_int pa_nil)) (pg_name (i:=6) scLaw.nd rfl (Or.inl rfl))
    (pss_one (ps_if (pt_cmpR op_ne (pe_ix ix_tup (pe_me B.me hr10 (pv 3) (pa_c (pe_ix ix_tup (pe_ix ix_list (pv 4) (pv 6) (fun _ _=>rfl)) pe_int (fun _ _=>rfl)) (pa_c (pe_ix ix_tup (pe_ix ix_list (pv 4) (pv 6) (fun _ _=>rfl)) pe_int (fun _ _=>rfl)) pa_nil))) pe_int (fun _ _=>rfl)) (pv 6) (nomark _)) (pss_one (ps_ret pe_bl)) pss_nil)))
   (pss_cons (ps_expr (pe_me B.lv hr10 (pv 3) (pa_c (pv 5) pa_nil)))
   (pss_cons (ps_set (i:=7) scLaw.nd rfl (Or.inl rfl) (pe_me0 MT hr (pv 3)))
   (pss_cons (ps_set (i:=8) scLaw.nd rfl (Or.inl rfl) (pe_op op_mod (pe_fc FD hr (pa_c (pv 0) (pa_c pe_int pa_nil))) pe_int))
   (pss_cons (ps_for PassesOwn.never rfl (pi_range1 rfl T.range (pa_c pe_int pa_nil)) (pg_name (i:=6) scLaw.nd rfl (Or.inl rfl))
    (pss_cons (ps_if (PW.pt (pw_and (pt_cmpR op_eq (pv 6) (pv 8) (nomark _)) (pw_and1 (pt_not (pt_val (pe_fc FNr hr (pa_c (pv 0) (pa_c (pv 3) pa_nil)))))))) (pss_one (ps_ret pe_bl)) pss_nil)
    (pss_one (ps_if (PW.pt (pw_and (pt_cmpR op_ne (pv 6) (pv 8) (nomark _)) (pw_and1 (pt_not (pt_val (pe_fc FNu hr (pa_c (pv 0) (pa_c (pv 3) (pa_c (pv 5) (pa_c pe_int pa_nil)))))))))) (pss_one (ps_ret pe_bl)) pss_nil))))
   (pss_cons (ps_if (PW.pt (pw_or (pt_cmpR op_ne (pe_me0 MT hr (pv 3)) (pv 7) (nomark _)) (pw_or (pt_cmpR op_ne (pe_ix ix_tup (pe_me B.me hr10 (pv 3) (pa_c pe_str (pa_c pe_str pa_nil))) pe_int (fun _ _=>rfl)) pe_int (nomark _)) (pw_or1 (pt_cmpR op_ne (pe_callB call_len_seq rfl T.len bLen (pa_c (pe_me MD hr (pv 3) (pa_c pe_str pa_nil)) pa_nil)) pe_int (nomark _)))))) (pss_one (ps_ret pe_bl)) pss_nil)
   hR)))))))))),?_⟩
  refine⟨_,rfl,a,ns,_,rfl,hS,hD,by decide,by decide,_,_,rfl,rfl,(by show(0:Int)<4;decide),?_⟩
  intro x0 d0 hx0 hd0 n0 x1 d1 hx1 hd1 n1 x2 d2 hx2 hd2 n2 x3 d3 hx3 hd3 n3
  refine⟨rfl,fun L H5 s5 hL=>?_⟩
  have w0:=(same_new (o:= .own x0) hd0).wr (o:= .ins c0 d0 []) hx0
  have w1:=(same_new (o:= .own x1) hd1).wr (o:= .ins c1 d1 []) hx1
  have w2:=(same_new (o:= .own x2) hd2).wr (o:= .ins c2 d2 []) hx2
  have w3:=(same_new (o:= .own x3) hd3).wr (o:= .ins c3 d3 []) hx3
  have s05:Same H H5:=Same.trans w0 (Same.trans w1 (Same.trans w2 (Same.trans w3 s5)))
  have th:∀j:Nat,j<4->∃x C W d,[V.ref x0,.ref x1,.ref x2,.ref x3][j]?=some (.ref x)/\H5 x=some (.ins C d [])/\Wy c0 c1 c2 c3 C W/\WayG W:=fun j hj=>by
   match j,hj with
   |0,_=>exact⟨x0,c0,W0,d0,rfl,s5 _ _ (w3 _ _ (w2 _ _ (w1 _ _ upd_same))),.inl ⟨rfl,rfl⟩,W0.g⟩
   |1,_=>exact⟨x1,c1,W1,d1,rfl,s5 _ _ (w3 _ _ (w2 _ _ upd_same)),.inr (.inl ⟨rfl,rfl⟩),W1.g⟩
   |2,_=>exact⟨x2,c2,W2,d2,rfl,s5 _ _ (w3 _ _ upd_same),.inr (.inr (.inl ⟨rfl,rfl⟩)),W2.g⟩
   |3,_=>exact⟨x3,c3,W3,d3,rfl,s5 _ _ upd_same,.inr (.inr (.inr ⟨rfl,rfl⟩)),W3.g⟩
  have j0:=Int.emod_nonneg (draw ns 0) (b:=4) (by decide)
  have j1:=Int.emod_lt_of_pos (draw ns 0) (b:=4) (by decide)
  obtain⟨j,hj⟩:∃j:Nat,(j:Int)=draw ns 0%4:=⟨(draw ns 0%4).toNat,by omega⟩
  obtain⟨x,C,W,d,hat,hx,hWy,hG⟩:=th j (by omega)
  have hat:=atI_nat hat
  rw[hj]at hat
  refine⟨_,rfl,_,rfl,L,_,_,.ref x,rfl,rfl,SqL.of hL,hat,?_⟩
  intro t dx ht hdx hnd
  refine tab_new (cT:=cT) (C:=C) (wy:=x) (dw:=d) hx ht hdx (fun H6 s6 hT0=>⟨rfl,?_⟩)
  clear ht hdx hnd th
  refine⟨_,rfl,_,rfl,fun H7 pl s7 hP=>?_⟩
  have s57:=Same.trans s6 s7
  have s07:=Same.trans s05 s57
  have PO:=prs_ok (draw ns 0%4)
  have hP:PrAt H7 pl (prs (draw ns 0%4)):=hP
  generalize prs (draw ns 0%4)=ps at PO hP
  refine⟨_,rfl,a,ns,_,rfl,s07.seq hS,hD,by decide,by decide,_,_,rfl,rfl,(by show(0:Int)<3;decide),?_⟩
  have g0':=Int.emod_nonneg (draw ns 1) (b:=3) (by decide)
  have g1':=Int.emod_lt_of_pos (draw ns 1) (b:=3) (by decide)
  obtain⟨gg,hgg⟩:∃j:Nat,(j:Int)=draw ns 1%3:=⟨(draw ns 1%3).toNat,by omega⟩
  refine⟨3,rfl,by decide,by decide,for_range (lo:=0) (n:=(3:Int).toNat) (fun i σ G=>(∃v6,σ=[some (.ref a),some (.int (draw ns 0%4)),some (.ref L),some (.ref t),some (.ref pl),some (.int (draw ns 1%3)),v6,none,none])/\Keeps H7 G/\∃rr cr,TabZ cT C G t (uP ps i) rr i cr/\TbOk (uP ps i) rr i cr/\W.ok (esR rr)/\rr.map (fun x=>x.2.no)=List.range i)
   ⟨⟨_,rfl⟩,Same.keeps (Same.refl _),[],0,hT0.same s7,TbOk.zero,hG.nil,rfl⟩ (fun i σ G hi xq1=>?_) (fun σ G xq1=>?_)⟩
  ·obtain⟨⟨v6,e⟩,kG,rr,cr,hT,O,ho,hl⟩:=xq1
   subst e
   rw[Int.zero_add]
   have hi':i<3:=hi
   have hll:rr.length=i:=by have:=congrArg List.length hl;rw[List.length_map,List.length_range]at this;exact this
   obtain⟨p,hp,na,nb,ne,hf,h58⟩:=PO.at_ i hi'
   obtain⟨as,h1,h2⟩:=hP.same kG
   obtain⟨b,h3,h4⟩:=h2 i p hp
   have h5:(as.map V.ref)[i]?=some (.ref b):=by rw[List.getElem?_map,h3];rfl
   obtain⟨dx,wy,dw,dp,dt,dg,Z⟩:=id hT
   refine⟨_,rfl,t,dx,_,rfl,Z.t,rfl,_,rfl,_,rfl,pl,_,_,.ref b,rfl,rfl,SqL.of h1,atI_nat h5,b,_,0,_,rfl,rfl,SqT.of h4,atI_nat (j:=0) rfl,_,rfl,_,rfl,pl,_,_,.ref b,rfl,rfl,SqL.of h1,atI_nat h5,b,_,1,_,rfl,rfl,SqT.of h4,atI_nat (j:=1) rfl,C,W,hWy,t,p.1,p.2,_,rr,i,cr,rfl,hT,.fresh hG O na nb ne h58 (by omega) ho hf,fun H' pp x c mv k hT' O' hno he hp'=>?_⟩
   rw[<-uP_succ hp]at hT' O'
   have oks:=(MeOk.fresh hG O na nb ne h58 (by omega) ho hf).ok
   refine⟨pp,_,0,_,rfl,rfl,SqT.of hp',atI_nat (j:=0) rfl,_,rfl,rfl,_,rfl,ne_no ⟨⟨_,rfl⟩,kG.trans k,rr++[x],c,hT',O',?_,?_⟩⟩
   ·rw[<-he]at oks
    unfold esR at oks⊢
    rw[List.map_append]
    exact oks
   ·rw[List.map_append,hl,List.range_succ,List.map_cons,List.map_nil,hno]
  obtain⟨⟨v6,e⟩,kG,rr,cr,hT,O,ho,hl⟩:=xq1
  subst e
  have hT:TabZ cT C G t (uP ps 3) rr 3 cr:=hT
  have O:TbOk (uP ps 3) rr 3 cr:=O
  have hl:rr.map (fun x=>x.2.no)=List.range 3:=hl
  have hll:rr.length=3:=by have:=congrArg List.length hl;rw[List.length_map,List.length_range]at this;exact this
  have hg:∃x∈rr,x.2.no=gg:=by
   have:gg∈rr.map (fun x=>x.2.no):=by rw[hl];exact List.mem_range.mpr (by omega)
   exact List.mem_map.mp this
  obtain⟨dx,wy,dw,dp,dt,dg,Z⟩:=id hT
  refine⟨_,rfl,t,dx,_,rfl,Z.t,rfl,_,rfl,C,t,_,rr,3,cr,gg,(by show[V.ref t,V.int (draw ns 1%3)]=_;rw[hgg]),hT,hg,fun G1 k1 hT1=>?_⟩
  clear Z
  have O1:=O.filter fun x=>x.2.no !=gg
  have ho1:W.ok (esR (rr.filter fun x=>x.2.no !=gg)):=hG.sub (List.filter_sublist.map _) ho
  have hn1:∀y∈rr.filter (fun x=>x.2.no !=gg),(y.2.no:Int)≠draw ns 1%3/\(y.2.no:Int)<3:=fun y hy=>by
   obtain⟨h1,h2⟩:=List.mem_filter.mp hy
   have:=O.lt y h1
   have h3:y.2.no≠gg:=fun z=>by rw[z]at h2;simp at h2
   omega
  have hl1:(rr.filter fun x=>x.2.no !=gg).length<=3:=by rw[<-hll];exact List.length_filter_le _ _
  generalize(rr.filter fun x=>x.2.no !=gg)=r1 at hT1 O1 ho1 hn1 hl1
  obtain⟨dx,wy,dw,dp,dt,dg,Z⟩:=id hT1
  have kH1:Keeps H G1:=(Same.keeps s07).trans (kG.trans k1)
  refine⟨_,rfl,t,dx,_,rfl,Z.t,rfl,C,t,_,r1,3,cr,rfl,hT1,O1,by omega,fun G2 s2=>?_⟩
  clear Z
  refine⟨_,rfl,a,ns,_,rfl,s2.seq (kH1.seq hS),hD,by decide,by decide,_,_,rfl,rfl,(by show(0:Int)<2;decide),?_⟩
  refine⟨2,rfl,by decide,by decide,for_range (lo:=0) (n:=(2:Int).toNat) (fun i σ G'=>(∃v6,σ=[some (.ref a),some (.int (draw ns 0%4)),some (.ref L),some (.ref t),some (.ref pl),some (.int (draw ns 1%3)),v6,some (.str (txt (lsR (uP ps 3) r1))),some (.int (draw ns 2%2))])/\Same G1 G')
   ⟨⟨_,rfl⟩,s2⟩ (fun i σ G' hi xq1=>?_) (fun σ G' xq1=>?_)⟩
  ·obtain⟨⟨v6,e⟩,sG⟩:=xq1
   subst e
   rw[Int.zero_add]
   refine⟨_,rfl,_,rfl,rfl,_,rfl,ite2 (fun _=>?_) (fun _=>iteF ?_)⟩
   ·refine⟨_,rfl,_,rfl,a,t,ns,C,_,r1,3,cr,rfl,sG.seq (kH1.seq hS),hD,hT1.same sG,PO.new,fun G3 s3=>⟨_,rfl,iteF ?_⟩⟩
    have sG:=Same.trans sG s3
    refine⟨_,rfl,_,rfl,rfl,_,rfl,ite2 (fun _=>?_) (fun _=>iteF ⟨⟨_,rfl⟩,sG⟩)⟩
    exact⟨_,rfl,_,rfl,_,rfl,a,t,ns,C,_,r1,3,cr,_,3,rfl,sG.seq (kH1.seq hS),hD,hT1.same sG,hn1,fun G4 s4=>⟨_,rfl,iteF ⟨⟨_,rfl⟩,Same.trans sG s4⟩⟩⟩
   ·refine⟨_,rfl,_,rfl,rfl,_,rfl,ite2 (fun _=>?_) (fun _=>iteF ⟨⟨_,rfl⟩,sG⟩)⟩
    exact⟨_,rfl,_,rfl,_,rfl,a,t,ns,C,_,r1,3,cr,_,3,rfl,sG.seq (kH1.seq hS),hD,hT1.same sG,hn1,fun G4 s4=>⟨_,rfl,iteF ⟨⟨_,rfl⟩,Same.trans sG s4⟩⟩⟩
  obtain⟨⟨v6,e⟩,sG⟩:=xq1
  subst e
  have hT2:=hT1.same sG
  obtain⟨dx,wy,dw,dp,dt,dg,Z⟩:=id hT2
  refine⟨_,rfl,t,dx,_,rfl,Z.t,rfl,C,t,_,r1,3,cr,rfl,hT2,O1,by omega,fun G3 s3=>⟨_,rfl,rfl,_,rfl,ne_no ?_⟩⟩
  have hT3:=hT2.same s3
  obtain⟨dx,wy,dw,dp,dt,dg,Z⟩:=id hT3
  have mo:MeOk W (uP ps 3) r1 3 cr (Str.ofString "newname") (Str.ofString "ann"):= .fresh hG O1 (by decide+kernel) (by decide+kernel) (by decide+kernel) PO.len (by omega) ho1 (.inl PO.new)
  refine⟨_,rfl,t,dx,_,rfl,Z.t,rfl,C,W,hWy,t,_,_,_,r1,3,cr,rfl,hT3,mo,fun G4 pp x c mv k4 hT4 O4 hno he hp'=>?_⟩
  refine⟨pp,_,0,_,rfl,rfl,SqT.of hp',atI_nat (j:=0) rfl,rfl,_,rfl,ne_no ?_⟩
  obtain⟨dx,wy,dw,dp,dt,dg,Z⟩:=id hT4
  have hm:Str.ofString "newname"∈addNs (uP ps 3) [Str.ofString "newname",Str.ofString "ann"]:=mem_addNs.mpr (.inr (.head _))
  have hi:=idx_new PO.new hm
  refine⟨_,rfl,t,dx,_,rfl,Z.t,rfl,C,t,_,_,r1,x,4,c,rfl,hT4,O4,by decide+kernel,hm,fun y hy hA=>?_,?_,fun G5 p5 v s5 h5=>?_⟩
  ·have:=O1.en y hy
   rcases hA with z|z<;>omega
  ·rw[he]
   exact .inl rfl
  ·refine⟨p5,_,rfl,.inr (SqT.of h5),rfl,_,rfl,ne_no ?_⟩
   exact rest _ _ _ _ _ _ _ _ G5 (s5.seq (k4.seq (s3.seq (sG.seq (kH1.seq hS)))))
end
section
variable{P:Program}{w:World}{K:PySem.W.Frag}{mg:Str->Option Value}{base:Heap}{cT c0 c1 c2 c3:Addr}
abbrev sTg:Stmt:=inClass (top 13) 0
theorem scTg:FnScope ["self","most"] ["self","most"] (defScope sTg):=⟨rfl,rfl,rfl,by decide+kernel,rfl,by decide+kernel,by decide+kernel⟩
theorem ok_tg{f C D:Addr}{fd:FuncData}(F:Fun K "__init__" "TooGreat.__init__" sTg f fd)(c:RX.XCl K C D)(hn:PySem.W.findIn K (.ref C) "most"=some none):FnOk P w K mg base CX0 1 f fd ["self","most"] (RX.spInit C "most"):=by
 refine F.ok scTg (fun vs H Q E h=>?_) (fun cdv A outer s H vs Q E hr h=>?_)
 ·obtain⟨e,fv,y,rfl,_⟩:=h
  rfl
 ·obtain⟨e,fv,y,rfl,he,q⟩:=h
  refine⟨_,pss_one (RX.ps_fldX (pv 0) (pv 1) rfl),?_⟩
  exact⟨_,rfl,_,rfl,e,C,D,fv,rfl,he,c,hn,fun dx h1 h2=>q dx h1 h2⟩
theorem me_four{k:Nat}{f:Addr}{fd:FuncData}{ps:List Str}(a:FnOk P w K mg base CX0 k f fd ps (spMe cT c0 W0))(b:FnOk P w K mg base CX0 k f fd ps (spMe cT c1 W1))(c:FnOk P w K mg base CX0 k f fd ps (spMe cT c2 W2))(d:FnOk P w K mg base CX0 k f fd ps (spMe cT c3 W3)):FnOk P w K mg base CX0 k f fd ps (spMeA cT c0 c1 c2 c3):=by
 have key:∀{C W},Wy c0 c1 c2 c3 C W->FnOk P w K mg base CX0 k f fd ps (spMe cT C W):=by
  rintro C W (⟨rfl,rfl⟩|⟨rfl,rfl⟩|⟨rfl,rfl⟩|⟨rfl,rfl⟩)
  ·exact a
  ·exact b
  ·exact c
  ·exact d
 exact⟨fun vs H Q E⟨_,_,hw,h⟩=>(key hw).len vs H Q E h,fun A outer s H args us vs Q E hr e0 hb r⟨_,_,hw,h⟩=>(key hw).run A outer s H args us vs Q E hr e0 hb r h⟩
end
end My
open PySem PySem.Spec PyProof.Rows
namespace L2
structure Df(K:PySem.W.Frag)(mg:Str->Option Value)(x:Str)(st:Stmt)(ps:List Str)(f:Addr)(fd:FuncData):Prop where
 g:mg x=some (.ref f)
 F:Fun K x x st f fd
 b:∀(kV doc pm:Value)(an:Option Addr)(cdv ct:Value)(us:List Value),us.length=ps.length->bindArgs (PySem.W.fnOf x x (defArgs st) (defBody st) (defScope st) .none kV doc pm an cdv ct) ⟨us,[]⟩=pure (ps.zip us)
structure Dm(K:PySem.W.Frag)(C:Addr)(m q:Str)(st:Stmt)(ps:List Str)(f:Addr)(fd:FuncData):Prop where
 M:Meth K C m f
 F:Fun K m q st f fd
 b:∀(kV doc pm:Value)(an:Option Addr)(cdv ct:Value)(us:List Value),us.length=ps.length->bindArgs (PySem.W.fnOf m q (defArgs st) (defBody st) (defScope st) .none kV doc pm an cdv ct) ⟨us,[]⟩=pure (ps.zip us)
section
variable{K:PySem.W.Frag}{mg:Str->Option Value}{x q:Str}{st:Stmt}{ps:List Str}{f c:Addr}{fd:FuncData}{n j:Nat}{sp:Sp}(P:Program)(w:World)(base:Heap)
theorem Df.k(D:Df K mg x st ps f fd):PySem.W.keepIn K (.ref f)=true:=D.F.kp
theorem Df.B(D:Df K mg x st ps f fd):Binds K fd ps []:=D.F.binds D.b
theorem Df.e(D:Df K mg x st ps f fd)(h:FnOk P w K mg base CX0 n f fd ps sp):FnE P w K mg base x ps n sp:=⟨⟨f,fd,h,D.g,D.k,D.B⟩⟩
theorem Dm.B(D:Dm K c x q st ps f fd):Binds K fd ps []:=D.F.binds D.b
theorem Dm.e(mg:Str->Option Value)(D:Dm K c x q st ps f fd)(C:Cls K c)(h:FnOk P w K mg base CX0 n f fd ps sp):MeE P w K mg base c x ps n sp:=⟨⟨f,fd,h,D.M,C,D.B⟩⟩
theorem FnE.up{P:Program}{w:World}{base:Heap}(F:FnE P w K mg base x ps j sp)(h:j<=n:=by decide):FnE P w K mg base x ps n sp:=F.mono h
theorem MeE.up{P:Program}{w:World}{base:Heap}(F:MeE P w K mg base c x ps j sp)(h:j<=n:=by decide):MeE P w K mg base c x ps n sp:=F.mono h
end
end L2
namespace My
open PySem L2
theorem all_mk{P:Program}{w:World}{K:PySem.W.Frag}{mg:Str->Option Value}{fa cW cM cP cT cB f1 f2 f3 f4 f5 f6 f7 f8 f9 f10 f11 f12 f13 f14 f15 f16 f17 f18 f19 f20 f21 f22 f23 f24 f25 f26 f27 f28 f29 f30 f31 f32 f33 f34 f35 fNW fAW fPW fNM fAM fPM fNP fAP fPP fNT fAT fPT fMe fMv fLv fCk fHr fDy fNn fTx fIG fIB:Addr}{d1 d2 d3 d4 d5 d6 d7 d8 d9 d10 d11 d12 d13 d14 d15 d16 d17 d18 d19 d20 d21 d22 d23 d24 d25 d26 d27 d28 d29 d30 d31 d32 d33 d34 d35 dNW dAW dPW dNM dAM dPM dNP dAP dPP dNT dAT dPT dMe dMv dLv dCk dHr dDy dNn dTx dIG dIB:FuncData}{tA tP tT tL tM:Tok}{cTE cNo cMt cGr:Addr}(hfa:mg "law"=some (.ref fa))
  (D1:Df K mg "is_number" sNum ["thing"] f1 d1)(D2:Df K mg "is_below" sBel ["thing","bound"] f2 d2)(D3:Df K mg "most_of" sMo ["net"] f3 d3)(D4:Df K mg "is_tint" sIt ["thing"] f4 d4)(D5:Df K mg "is_clean" sPc ["net","tints"] f5 d5)(D6:Df K mg "tints_at" sTa ["net","tints","point"] f6 d6)(D7:Df K mg "free_tints" sFt ["net","tints","point","many"] f7 d7)(D8:Df K mg "free_at_both" sFb ["net","tints","one","other","many"] f8 d8)(D9:Df K mg "is_tint_step" sTn ["net","thing"] f9 d9)(D10:Df K mg "is_step" sIs ["net","thing"] f10 d10)(D11:Df K mg "done" sDo ["net","tints","step"] f11 d11)(D12:Df K mg "walked" sWa ["net","tints","steps"] f12 d12)(D13:Df K mg "behind" sBh ["net","tints","steps"] f13 d13)(D14:Df K mg "way_or_manifold" sWm ["way"] f14 d14)(D15:Df K mg "is_word" sWd ["thing","signs","most"] f15 d15)(D16:Df K mg "is_name" sNm ["thing"] f16 d16)(D17:Df K mg "places_with" sPw ["places","names"] f17 d17)(D18:Df K mg "line_of" sLo ["one","other","tint"] f18 d18)(D19:Df K mg "shown" sSh ["names","net","tints"] f19 d19)(D20:Df K mg "like_pair" sLp ["net"] f20 d20)(D21:Df K mg "neighbours" Sd.sNb ["net"] f21 d21)(D22:Df K mg "spread" Sd.sSpr ["tied","row","above","root"] f22 d22)(D23:Df K mg "closed" Sd.sCl ["above","one","other"] f23 d23)(D24:Df K mg "sides" Sd.sSd ["net"] f24 d24)(D25:Df K mg "_law_draw" sDraw ["_law_script","_law_k"] f25 d25)(D26:Df K mg "_law_kinds" sKi ["_law_e"] f26 d26)(D27:Df K mg "_law_refused" sRf ["_law_table","_law_way","_law_one","_law_other"] f27 d27)(D28:Df K mg "_law_no_name" sNo ["_law_number"] f28 d28)(D29:Df K mg "_law_names_refused" sNr ["_law_script","_law_table"] f29 d29)(D30:Df K mg "_law_numbers_refused" sNu ["_law_script","_law_table","_law_gone","_law_following"] f30 d30)(D31:Df K mg "_law_pairs" sPs ["_law_kind"] f31 d31)(D32:Df K mg "_law_letter" sLe ["_law_k"] f32 d32)(D33:Df K mg "_law_many_names" sMn [] f33 d33)(D34:Df K mg "_law_many_meetings" sMm [] f34 d34)(D35:Df K mg "law" sLaw ["_law_script"] f35 d35)(gW:mg "Way"=some (.ref cW))(DNW:Dm K cW "needed" "Way.needed" sW ["self","most"] fNW dNW)(DAW:Dm K cW "asked" "Way.asked" sAkW ["self","net"] fAW dAW)(DPW:Dm K cW "put" "Way.put" sPut ["self","net","tints","tie","many"] fPW dPW)(CW:Cls K cW)(mW:Mk0 K cW)(gM:mg "Manifold"=some (.ref cM))(DNM:Dm K cM "needed" "Manifold.needed" sM ["self","most"] fNM dNM)(DAM:Dm K cM "asked" "Way.asked" sAkW ["self","net"] fAM dAM)(DPM:Dm K cM "put" "Way.put" sPut ["self","net","tints","tie","many"] fPM dPM)(CM:Cls K cM)(mM:Mk0 K cM)(gP:mg "Plain"=some (.ref cP))(DNP:Dm K cP "needed" "Plain.needed" sP ["self","most"] fNP dNP)(DAP:Dm K cP "asked" "Plain.asked" sAkP ["self","net"] fAP dAP)(DPP:Dm K cP "put" "Way.put" sPut ["self","net","tints","tie","many"] fPP dPP)(CP:Cls K cP)(mP:Mk0 K cP)(gT:mg "TwoSided"=some (.ref cT))(DNT:Dm K cT "needed" "TwoSided.needed" sT ["self","most"] fNT dNT)(DAT:Dm K cT "asked" "TwoSided.asked" sAkT ["self","net"] fAT dAT)(DPT:Dm K cT "put" "Way.put" sPut ["self","net","tints","tie","many"] fPT dPT)(CT:Cls K cT)(mT:Mk0 K cT)(gB:mg "Table"=some (.ref cB))(DMe:Dm K cB "meet" "Table.meet" sMe ["self","one","other"] fMe dMe)(DMv:Dm K cB "moved_to" "Table.moved_to" sMv ["self","tints"] fMv dMv)(DLv:Dm K cB "leave" "Table.leave" sLv ["self","number"] fLv dLv)(DCk:Dm K cB "check" "Table.check" sCk ["self","number"] fCk dCk)(DHr:Dm K cB "hour" "Table.hour" sHr ["self","number"] fHr dHr)(DDy:Dm K cB "day" "Table.day" sDy ["self","name"] fDy dDy)(DNn:Dm K cB "net_now" "Table.net_now" sNn ["self"] fNn dNn)(DTx:Dm K cB "text" "Table.text" sTx ["self"] fTx dTx)(CB:Cls K cB)(gNo:mg "NoName"=some (.ref cNo))(gMt:mg "NoMeeting"=some (.ref cMt))(gGr:mg "TooGreat"=some (.ref cGr))(gTE:mg "TintError"=some (.ref cTE))(xNo:RX.xcIn K cNo cTE=true)(xnNo:RX.xnIn K cNo=true)(kpNo:PySem.W.keepIn K (.ref cNo)=true)(xMt:RX.xcIn K cMt cTE=true)(xnMt:RX.xnIn K cMt=true)(kpMt:PySem.W.keepIn K (.ref cMt)=true)(XCG:RX.XCl K cGr cTE)(DIG:Dm K cGr "__init__" "TooGreat.__init__" sTg ["self","most"] fIG dIG)(neG:PySem.W.findIn K (.ref cGr) "most"=some none)(R:RfK K mg cNo cMt cGr cTE)(MkB:Mk K cB fIB)(FDB:FunD K "__init__" "Table.__init__" sIn fIB dIB)(hbIB:Binds K dIB ["self","way"] [])(SB:TcC K cB)(zA:mg "ALL_TINTS"=some (.int 1000 tA))(zP:mg "MOST_POINTS"=some (.int 60 tP))(zT:mg "MOST_TIES"=some (.int 200 tT))(zL:mg "LETTERS"=some (.str Tx.letters tL))(zM:mg "MOST_LETTERS"=some (.int 8 tM))(T:Bi mg)(z12:mg "all"=none)(z13:mg "str"=none)(z14:mg "sorted"=none)(z15:mg "enumerate"=none)(z16:mg "reversed"=none)(hb:∀s v,BindsTo s d35 ⟨[v],[]⟩ [("_law_script",v)])
  :∃fd:FuncData,(∀(s:Shared)(v:Value),BindsTo s fd ⟨[v],[]⟩ [("_law_script",v)])/\∀base:Heap,K.In base->base.Ns mainGlobals mg->FnOk P w K mg base CX0 12 fa fd ["_law_script"] (spLaw K):=by
 cases hfa.symm.trans D35.g
 refine⟨_,hb,fun base _ _=>?_⟩
 have E1:=D1.e P w base (ok_num2 D1.F T)
 have E2:=D2.e P w base (ok_bel2 D2.F E1)
 have EB:=E2.imp fun _ _ _ _=>bel_of
 have E3:=D3.e P w base (ok_mo D3.F T)
 have E4:=D4.e P w base (ok_it D4.F zA EB)
 have E5:=D5.e P w base (ok_pc D5.F T)
 have E6:=D6.e P w base (ok_ta D6.F T)
 have E7:=D7.e P w base (ok_ft D7.F T E6)
 have E8:=D8.e P w base (ok_fb D8.F T E6.up E7)
 have E9:=D9.e P w base (ok_tn D9.F T EB.up E4)
 have E10:=D10.e P w base (ok_is D10.F T z13 E9)
 have E11:=D11.e P w base (ok_do D11.F T E10 E5.up)
 have E12:=D12.e P w base (ok_wa D12.F E11)
 have E13:=D13.e P w base (ok_bh D13.F E12)
 have E14:=D14.e P w base (ok_wm D14.F)
 have E15:=D15.e P w base (ok_wd D15.F T z12)
 have E16:=D16.e P w base (ok_nm2 D16.F T z13 zL zM E15)
 have E17:=D17.e P w base (ok_pw D17.F T)
 have E18:=D18.e P w base (ok_lo D18.F)
 have E19:=D19.e P w base (ok_sh D19.F T.zip E18)
 have E20:=D20.e P w base (ok_lp D20.F T z15)
 have E21:=D21.e P w base (Sd.ok_nb D21.F T)
 have E22:=D22.e P w base (Sd.ok_spr D22.F T)
 have E23:=D23.e P w base (Sd.ok_cl D23.F T z16)
 have E24:=D24.e P w base (Sd.ok_sd D24.F T E21 E22 E23)
 have E25:=D25.e P w base (ok_draw D25.F T)
 have XN:XcN K mg "NoName" cNo:=⟨⟨cTE,xNo⟩,xnNo,kpNo,gNo⟩
 have XM:XcN K mg "NoMeeting" cMt:=⟨⟨cTE,xMt⟩,xnMt,kpMt,gMt⟩
 have GG:GrF P w K mg base "TooGreat" "most" cGr:=⟨⟨cTE,_,_,XCG,DIG.M.1,DIG.M.2,ok_tg DIG.F XCG neG,DIG.B⟩,gGr⟩
 have MX:FnOk P w K mg base (RX.CXe P w) 9 fMe _ ["self","one","other"] (spMeX cB cNo cGr):=FnOk.or (ok_meN DMe.F E16.up XN) (FnOk.all fun C=>ok_meG (C:=C) DMe.F T SB zP zT E16.up E17.up GG)
 have DX:FnOk P w K mg base (RX.CXe P w) 9 fDy _ ["self","name"] (fun vs H Q E=>∃C,spDyX cB C cNo vs H Q E):=(FnOk.all fun C=>ok_dyX (C:=C) DDy.F SB E16 XN).mono (by decide)
 have CX:∀C,MeX P w K mg base cB "check" ["self","number"] 2 (spCkX cB C cMt):=fun C=>⟨⟨_,_,ok_ckX DCk.F SB E1 XM,DCk.M,CB,DCk.B⟩⟩
 have HX:FnOk P w K mg base (RX.CXe P w) 9 fHr _ ["self","number"] (fun vs H Q E=>∃C,spCkX cB C cMt vs H Q E):=(FnOk.all fun C=>ok_hrX (C:=C) DHr.F (CX C)).mono (by decide)
 have LX:FnOk P w K mg base (RX.CXe P w) 9 fLv _ ["self","number"] (fun vs H Q E=>∃C,spCkX cB C cMt vs H Q E):=(FnOk.all fun C=>ok_lvX (C:=C) DLv.F (CX C)).mono (by decide)
 have OKi:=ok_ki (P:=P) (w:=w) (base:=base) D26.F T
 have E27:=D27.e P w base (ok_rf D27.F T R CB MX DMe.M DMe.B DX DDy.M DDy.B HX DHr.M DHr.B LX DLv.M DLv.B OKi D26.g D26.k D26.B)
 have E28:=D28.e P w base (ok_no D28.F)
 have E29:=D29.e P w base (ok_nr D29.F T E25.up E28.up E27)
 have E30:=D30.e P w base (ok_nu D30.F T E25.up E27)
 have E31:=D31.e P w base (ok_ps D31.F)
 have E32:=D32.e P w base (ok_le D32.F)
 have MMv:=DMv.e P w base mg CB (ok_mv DMv.F T SB)
 have NW:MeE P w K mg base cW "needed" ["self","most"] 6 (spNdW W0):=(DNW.e P w base mg CW (ok_W DNW.F T)).up
 have AW:MeE P w K mg base cW "asked" ["self","net"] 6 (spAkW W0):=(DAW.e P w base mg CW (ok_akW (W:=W0) DAW.F)).up
 have PW:=DPW.e P w base mg CW (ok_putW (W:=W0) DPW.F T EB.up E3.up E8.up NW AW)
 have QW:=ok_me (W:=W0) DMe.F T SB zP zT E16.up E17.up E3.up PW.up NW.up E13 MMv.up
 have NT:MeE P w K mg base cT "needed" ["self","most"] 6 (spNdW W1):=(DNT.e P w base mg CT (ok_T DNT.F)).up
 have AT:MeE P w K mg base cT "asked" ["self","net"] 6 (spAkW W1):=(DAT.e P w base mg CT (ok_akT (W:=W1) DAT.F (fun _ h=>h) E24)).up
 have PT:=DPT.e P w base mg CT (ok_putW (W:=W1) DPT.F T EB.up E3.up E8.up NT AT)
 have QT:=ok_me (W:=W1) DMe.F T SB zP zT E16.up E17.up E3.up PT.up NT.up E13 MMv.up
 have NP:MeE P w K mg base cP "needed" ["self","most"] 6 (spNdW W2):=(DNP.e P w base mg CP (ok_P DNP.F)).up
 have AP:MeE P w K mg base cP "asked" ["self","net"] 6 (spAkW W2):=(DAP.e P w base mg CP (ok_akP (W:=W2) DAP.F (fun _ h=>h) E20)).up
 have PP:=DPP.e P w base mg CP (ok_putW (W:=W2) DPP.F T EB.up E3.up E8.up NP AP)
 have QP:=ok_me (W:=W2) DMe.F T SB zP zT E16.up E17.up E3.up PP.up NP.up E13 MMv.up
 have NM:MeE P w K mg base cM "needed" ["self","most"] 6 (spNdW W3):=(DNM.e P w base mg CM (ok_M DNM.F)).up
 have AM:MeE P w K mg base cM "asked" ["self","net"] 6 (spAkW W3):=(DAM.e P w base mg CM (ok_akW (W:=W3) DAM.F)).up
 have PM:=DPM.e P w base mg CM (ok_putW (W:=W3) DPM.F T EB.up E3.up E8.up NM AM)
 have QM:=ok_me (W:=W3) DMe.F T SB zP zT E16.up E17.up E3.up PM.up NM.up E13 MMv.up
 have ME:MeE P w K mg base cB "meet" ["self","one","other"] 10 (spMeA cB cW cT cP cM):=(DMe.e P w base mg CB (me_four QW QT QP QM)).up
 have LV:MeE P w K mg base cB "leave" ["self","number"] 10 (spLvA cB):=(DLv.e P w base mg CB (FnOk.all fun C=>ok_lv (C:=C) DLv.F SB (DCk.e P w base mg CB (ok_ck (C:=C) DCk.F SB E1)))).up
 have TB:TbF P w K mg base cB cW cT cP cM:=⟨gB,gW,mW,⟨_,_,MkB,(FnOk.all fun C=>ok_in (C:=C) FDB SB E14).mono (by decide),hbIB⟩,ME,LV⟩
 have E33:=D33.e P w base (ok_mn D33.F T TB E32.up E27)
 have TXm:MeE P w K mg base cB "text" ["self"] 11 (spTxA cB):=(DTx.e P w base mg CB (FnOk.all fun C=>ok_tx (C:=C) DTx.F T SB (DNn.e P w base mg CB (ok_nn (C:=C) DNn.F T SB)).up E19)).up
 have DYm:MeE P w K mg base cB "day" ["self","name"] 11 (spDyA cB):=(DDy.e P w base mg CB (FnOk.all fun C=>ok_dy (C:=C) DDy.F T z14 SB E16)).up
 have E34:=D34.e P w base (ok_mm D34.F T TB E32.up E27)
 exact ok_law D35.F T TB gT mT gP mP gM mM TXm DYm E25.up E31.up E29 E30 E33 E34
theorem walk{l:PySem.W.OpenLaw}{q:Program}{loose:List Str}{XP:(Str->Option Value)->Heap->Prop}{YP:World->Heap->Prop}{d:DefRec}{K:Params->PySem.W.Frag}(hn:l.most=some 63)(hdf:d.params.defaults=[])
  (hY:∀(w:World)(h:Heap),YP w h->(K w.params).In h)
  (F:∀(w:World)(mg:Str->Option Value)(fa:Addr)(h:Heap),(K w.params).In h->h.Ns mainGlobals mg->mg d.name=some (.ref fa)->
   ∃fd:FuncData,(∀(s:Shared)(u:Value),BindsTo s fd ⟨[u],[]⟩ [("_law_script",u)])/\∀base:Heap,(K w.params).In base->base.Ns mainGlobals mg->FnOk l.prog w (K w.params) mg base CX0 12 fa fd ["_law_script"] (spLaw (K w.params))):
  PySem.W.WalkO q loose XP YP l.row.toRowW d [] (fun f vs=>PySem.call f vs):=
 L2.walk_of (n:=63) (k:=12) (x:="_law_script") (CX:=fun _=>CX0) (sp:=fun w=>spLaw (K w.params)) hn (by decide) hdf ⟨rfl,by decide,by decide⟩ hY F (fun _ _ a ns hl _ hS=>⟨a,ns,rfl,hS,hl,fun _=>rfl⟩) fun _ _ _ _ _ z=>z
end My
open PySem PySem.W PyProof.Rows
def PySem.W.Fast.tw14948782996662478511:Unit:=()
def PySem.W.Fast.tw7762115045028811509:Unit:=()
def PySem.W.Fast.tw12544398208724908059:Unit:=()
def PySem.W.Fast.tw9785194535407438191:Unit:=()
def PySem.W.Fast.tw16911140055697807694:Unit:=()
def PySem.W.Fast.tw16713968992193423990:Unit:=()
def PySem.W.Fast.tw8333533052360611782:Unit:=()
def PySem.W.Fast.tw210734223241463056:Unit:=()
def PySem.W.Fast.tw1651709067620701455:Unit:=()
def PySem.W.Fast.tw562081535319084713:Unit:=()
def PySem.W.Fast.tw13193528178768317925:Unit:=()
def PySem.W.Fast.tw13028657650748009267:Unit:=()
def PySem.W.Fast.tw9265003781779408340:Unit:=()
def PySem.W.Fast.tw6472432777108136389:Unit:=()
def PySem.W.Fast.tw13055981371311971748:Unit:=()
def PySem.W.Fast.tw7171262956517209235:Unit:=()
def PySem.W.Fast.tw18255817608592897370:Unit:=()
def PySem.W.Fast.tw6447108241728718823:Unit:=()
def PySem.W.Fast.tw11373683033428627925:Unit:=()
def PySem.W.Fast.tw16214114315233440966:Unit:=()
def PySem.W.Fast.tw13280747673985989978:Unit:=()
def PySem.W.Fast.tw17779759009531815625:Unit:=()
def PySem.W.Fast.tw16963102588266116945:Unit:=()
def PySem.W.Fast.tw17791247039702852977:Unit:=()
def PySem.W.Fast.tw6104502039904571509:Unit:=()
def PySem.W.Fast.tw3471930557140809915:Unit:=()
def PySem.W.Fast.tw2802488344992157104:Unit:=()
def PySem.W.Fast.tw16995293490427720253:Unit:=()
def PySem.W.Fast.tw10705447029038595934:Unit:=()
def PySem.W.Fast.tw18138639978857395945:Unit:=()
def PySem.W.Fast.tw18366597548261957892:Unit:=()
def PySem.W.Fast.tw17030521591010492950:Unit:=()
def PySem.W.Fast.tw8750295477206800065:Unit:=()
def PySem.W.Fast.tw885847336112031085:Unit:=()
def PySem.W.Fast.tw6043272315287536798:Unit:=()
def PySem.W.Fast.tw2529489082007921184:Unit:=()
def PySem.W.Fast.tw3431270940657964503:Unit:=()
def PySem.W.Fast.tw1706917740328352388:Unit:=()
def PySem.W.Fast.tw13309359720035190379:Unit:=()
def PySem.W.Fast.tw10197404532853334909:Unit:=()
def PySem.W.Fast.tw8500854942061979689:Unit:=()
def PySem.W.Fast.tw10513261987956150604:Unit:=()
def PySem.W.Fast.tw18222225768831201084:Unit:=()
def PySem.W.Fast.tw6100767759817353221:Unit:=()
def PySem.W.Fast.tw1319758654322087408:Unit:=()
def PySem.W.Fast.tw1334789012296496547:Unit:=()
def PySem.W.Fast.tw7096811502673919660:Unit:=()
def PySem.W.Fast.tw16388679027127544461:Unit:=()
def PySem.W.Fast.tw9163842722044202886:Unit:=()
def PySem.W.Fast.tw10400660588878605292:Unit:=()
def PySem.W.Fast.tw5045266890543641987:Unit:=()
def PySem.W.Fast.tw15005494285070952165:Unit:=()
def PySem.W.Fast.tw11423558028868010887:Unit:=()
def PySem.W.Fast.tw5729696069312234334:Unit:=()
def PySem.W.Fast.tw2053277179284899770:Unit:=()
def PySem.W.Fast.tw9529061493508868967:Unit:=()
def PySem.W.Fast.tw7048201529042409154:Unit:=()
def PySem.W.Fast.tw923630906761780539:Unit:=()
def PySem.W.Fast.tw10597722679321924464:Unit:=()
def PySem.W.Fast.tw1563325332500973985:Unit:=()
def PySem.W.Fast.tw5148913157571743567:Unit:=()
def PySem.W.Fast.tw14661395802049218966:Unit:=()
def PySem.W.Fast.tw6363876375081642890:Unit:=()
def PySem.W.Fast.tw1074985005412348306:Unit:=()
def PySem.W.Fast.tw16560006172928435382:Unit:=()
def PySem.W.Fast.tw8111885121756733557:Unit:=()
def PySem.W.Fast.tw16471730438429647919:Unit:=()
def PySem.W.Fast.tw17462162873410734944:Unit:=()
def PySem.W.Fast.tw7666347961880523226:Unit:=()
def PySem.W.Fast.tw8633858147000162697:Unit:=()
def PySem.W.Fast.tw1369112042772959741:Unit:=()
def PySem.W.Fast.tw9850124857074527060:Unit:=()
def PySem.W.Fast.tw11591498375480976181:Unit:=()
def PySem.W.Fast.tw3570599609119774851:Unit:=()
def PySem.W.Fast.tw5249990265797150135:Unit:=()
def PySem.W.Fast.tw4921701175070716073:Unit:=()
def PySem.W.Fast.tw17493148930462068195:Unit:=()
def PySem.W.Fast.tw5545263074450391468:Unit:=()
def PySem.W.Fast.tw11183771931431059566:Unit:=()
def PySem.W.Fast.tw1021845354523567301:Unit:=()
def PySem.W.Fast.tw8252132676511708631:Unit:=()
def PySem.W.Fast.tw5013289986657832897:Unit:=()
def PySem.W.Fast.tw4930405778243255362:Unit:=()
def PySem.W.Fast.tw3403154316056530096:Unit:=()
def PySem.W.Fast.tw2920248367440187101:Unit:=()
def PySem.W.Fast.tw3860249509653607902:Unit:=()
def PySem.W.Fast.tw5989106229922933632:Unit:=()
def PySem.W.Fast.tw10937980420545600933:Unit:=()
def PySem.W.Fast.tw15053046379718725818:Unit:=()
def PySem.W.Fast.tw11559596099706987734:Unit:=()
def PySem.W.Fast.tw17086157830750783743:Unit:=()
def PySem.W.Fast.tw14904920647296986924:Unit:=()
def PySem.W.Fast.tw5260233621531416052:Unit:=()
def PySem.W.Fast.tw12516321065895641930:Unit:=()
def PySem.W.Fast.tw10792689987065788675:Unit:=()
def PySem.W.Fast.tw17696644556501211724:Unit:=()
def PySem.W.Fast.tw12043724885294316740:Unit:=()
def PySem.W.Fast.tw13897400341127796334:Unit:=()
def PySem.W.Fast.tw11048083745667539660:Unit:=()
def PySem.W.Fast.tw9455777308799946033:Unit:=()
def PySem.W.Fast.tw2641440050748227703:Unit:=()
def PySem.W.Fast.tw7634864682250545012:Unit:=()
def PySem.W.Fast.tw18441598363161922164:Unit:=()
def PySem.W.Fast.tw5707085335272459074:Unit:=()
def PySem.W.Fast.tw4910425251377366135:Unit:=()
def PySem.W.Fast.tw8407166701918562222:Unit:=()
def PySem.W.Fast.tw17116054583004723453:Unit:=()
def PySem.W.Fast.tw1249006693324863062:Unit:=()
def PySem.W.Fast.tw6954331910812036556:Unit:=()
def PySem.W.Fast.tw11285679322330265945:Unit:=()
def PySem.W.Fast.tw13161375984913889874:Unit:=()
def PySem.W.Fast.tw11363725899388424776:Unit:=()
def PySem.W.Fast.tw11239121964949417450:Unit:=()
def PySem.W.Fast.tw1115328690043558275:Unit:=()
def PySem.W.Fast.tw10244918338042885358:Unit:=()
def PySem.W.Fast.tw8470698205285331545:Unit:=()
def PySem.W.Fast.tw9974546515077563245:Unit:=()
def PySem.W.Fast.tw3292797656206970146:Unit:=()
def PySem.W.Fast.tw9876609224235271861:Unit:=()
def PySem.W.Fast.tw4977915890415852171:Unit:=()
def PySem.W.Fast.tw11498417113846877517:Unit:=()
def PySem.W.Fast.tw9537856767243379168:Unit:=()
def PySem.W.Fast.tw56910375646036385:Unit:=()
def PySem.W.Fast.tw11256962206219934171:Unit:=()
def PySem.W.Fast.tw13946634448024581397:Unit:=()
def PySem.W.Fast.tw10563809784376942166:Unit:=()
def PySem.W.Fast.tw1372643997454666996:Unit:=()
def PySem.W.Fast.tw9815170574083180527:Unit:=()
def PySem.W.Fast.tw13148103348277572398:Unit:=()
def PySem.W.Fast.tw14262427634929538658:Unit:=()
def PySem.W.Fast.tw2533649287906003849:Unit:=()
def PySem.W.Fast.tw17221304251525809413:Unit:=()
def PySem.W.Fast.tw8731751707287402393:Unit:=()
def PySem.W.Fast.tw6008890502699320530:Unit:=()
def PySem.W.Fast.tw11471523430393286769:Unit:=()
def PySem.W.Fast.tw9412301986525571168:Unit:=()
def PySem.W.Fast.tw14503722030501242952:Unit:=()
def PySem.W.Fast.tw14237561151067777468:Unit:=()
def PySem.W.Fast.tw17933386385372045556:Unit:=()
def PySem.W.Fast.tw14497512961204533641:Unit:=()
def PySem.W.Fast.tw10452568951983050146:Unit:=()
def PySem.W.Fast.tw15054003192295697451:Unit:=()
def PySem.W.Fast.tw7599826638291206612:Unit:=()
def PySem.W.Fast.tw5461982778162981496:Unit:=()
def PySem.W.Fast.tw11396894847247000948:Unit:=()
def PySem.W.Fast.tw11263122048164606687:Unit:=()
def PySem.W.Fast.tw2341470588087932697:Unit:=()
def PySem.W.Fast.tw6194779528689520783:Unit:=()
def PySem.W.Fast.tw6954768561662541376:Unit:=()
def PySem.W.Fast.tw10457884807879666168:Unit:=()
def PySem.W.Fast.tw3241257555669922337:Unit:=()
def PySem.W.Fast.tw2507677495693411001:Unit:=()
def PySem.W.Fast.tw15113274695558074911:Unit:=()
def PySem.W.Fast.tw14141528122420967226:Unit:=()
def PySem.W.Fast.tw16466441225853119913:Unit:=()
def PySem.W.Fast.tw16457522908165203787:Unit:=()
def PySem.W.Fast.tw8004506643623362630:Unit:=()
def PySem.W.Fast.tw5562328373861319836:Unit:=()
def PySem.W.Fast.tw11871233134380968641:Unit:=()
def PySem.W.Fast.tw9839566963740874422:Unit:=()
def PySem.W.Fast.tw4489035911661316214:Unit:=()
def PySem.W.Fast.tw13992514294061809113:Unit:=()
def PySem.W.Fast.tw9719137607210722671:Unit:=()
def PySem.W.Fast.tw4234982016304578639:Unit:=()
def PySem.W.Fast.tw17706955186198345968:Unit:=()
def PySem.W.Fast.tw2858167489185520148:Unit:=()
def PySem.W.Fast.tw12981690909923659654:Unit:=()
def PySem.W.Fast.tw15896127764001153483:Unit:=()
def PySem.W.Fast.tw15829421409929720774:Unit:=()
def PySem.W.Fast.tw1277566102297878773:Unit:=()
def PySem.W.Fast.tw8621343446740593813:Unit:=()
def PySem.W.Fast.tw2889454694644560007:Unit:=()
def PySem.W.Fast.tw507972812789462232:Unit:=()
def PySem.W.Fast.tw560347648626861282:Unit:=()
def PySem.W.Fast.tw6147418674269751849:Unit:=()
def PySem.W.Fast.tw4826468116105838778:Unit:=()
def PySem.W.Fast.tw5686056741869436671:Unit:=()
def PySem.W.Fast.tw8317842500421583459:Unit:=()
def PySem.W.Fast.tw16955597462727420064:Unit:=()
def PySem.W.Fast.tw6663785279385033634:Unit:=()
def PySem.W.Fast.tw7747193841949307593:Unit:=()
def PySem.W.Fast.tw3969403821248938193:Unit:=()
def PySem.W.Fast.tw13598769640664770895:Unit:=()
def PySem.W.Fast.tw8792543590640930752:Unit:=()
def PySem.W.Fast.tw15557312647313483229:Unit:=()
def PySem.W.Fast.tw17534051457677414311:Unit:=()
def PySem.W.Fast.tw6510034372100318944:Unit:=()
def PySem.W.Fast.tw6486127287679610548:Unit:=()
def PySem.W.Fast.tw88254060034222850:Unit:=()
def PySem.W.Fast.tw16719349834558885962:Unit:=()
def PySem.W.Fast.tw13686092697173936879:Unit:=()
def PySem.W.Fast.tw10258638501655573088:Unit:=()
def PySem.W.Fast.tw3396320075585032903:Unit:=()
def PySem.W.Fast.tw16309262163474744165:Unit:=()
def PySem.W.Fast.tw9176855835675284770:Unit:=()
def PySem.W.Fast.tw982002246834905979:Unit:=()
def PySem.W.Fast.tw18052346608555950056:Unit:=()
def PySem.W.Fast.tw389366245234694600:Unit:=()
def PySem.W.Fast.tw7203358717387411316:Unit:=()
def PySem.W.Fast.tw12450747555776919369:Unit:=()
def PySem.W.Fast.tw13772741393517987547:Unit:=()
def PySem.W.Fast.tw7037077966190948019:Unit:=()
def PySem.W.Fast.tw6490261638840829734:Unit:=()
def PySem.W.Fast.tw11161863231574218720:Unit:=()
def PySem.W.Fast.tw11127970407743969120:Unit:=()
def PySem.W.Fast.tw4644765260825414570:Unit:=()
def PySem.W.Fast.tw407874396636173567:Unit:=()
def PySem.W.Fast.tw3018044659450728887:Unit:=()
set_option maxRecDepth 100000 in
set_option maxHeartbeats 0 in
theorem PySem.Challenge.cw_tintties_k84_tables_refused_holds : PySem.Challenge.rw_tintties_k84_tables_refused.Holds := by
 w_on;o_law;k_head;(case hw=>w_witness2)
 k_fill
 refine My.walk (l:=PySem.Challenge.rw_tintties_k84_tables_refused) rfl rfl (fun w h Y=>PySem.W.kIn_of Y) ?F
 case F=>
  intro w mg fa h KX G hmg
  apply My.all_mk hmg
  all_goals repeat' first|(intro s v;exact .of_eq rfl)|(intro _ _ _ _ _ _ us hl;rcases us with _|⟨_,_|⟨_,_|⟨_,_|⟨_,_|⟨_,_|⟨_,_⟩⟩⟩⟩⟩⟩<;>first|rfl|(simp at hl;done))|(refine .all fun us hl=>?_;rcases us with _|⟨_,_|⟨_,_|⟨_,_|⟨_,_|⟨_,_|⟨_,_⟩⟩⟩⟩⟩⟩<;>first|rfl|(simp at hl;done))|(unfold L2.NoAttr;k_is)|(intro s us X hl;rw[List.append_nil]at hl⊢;rcases us with _|⟨_,_|⟨_,_|⟨_,_⟩⟩⟩<;>first|exact PySem.W.binds_K X rfl (by k_is) rfl rfl rfl|(simp at hl;done))|with_reducible refine' mg_of KX G ?_|with_reducible refine' mg_none_of KX G ?_|((with_reducible show kitOne _ _ _=_);kernel_rfl)|((with_reducible show kitCls _ _ _=_);kernel_rfl)|((with_reducible show mroIn _ _ _=_);kernel_rfl)|((with_reducible show RX.xcIn _ _ _=_);kernel_rfl)|((with_reducible show RX.xnIn _ _=_);kernel_rfl)|((with_reducible show codeHdIn _ _ _=_);kernel_rfl)|k_is|constructor
#print axioms PySem.Challenge.cw_tintties_k84_tables_refused_holds
