import PyProof.Rows.All
import Wide.All
import OpenK.AllK
import Wide.FinOn
import PyProof.EqAt
import PyProof.EqKinds
import PyProof.TupleCall
import KE.BitLaws
import Open.SpecLaws
import KE.OsHead
import KE.OsGo
import KE.KTryMore
import KE.KLooksOwn
import PyProof.RulesAs
import PyProof.RulesDel
import PyProof.ExcBaseAll.Exception
import PyProof.InstStoreFacts
import PyProof.ExcArgs
import PyProof.ExcAttrAll.Exception
import PyProof.Draws
import PyProof.NeKinds
import KE.KDictSum
import PyProof.Rows.SetFrom
import PyProof.SetRoads
import PySem.Challenge.RW_wallbonds_s09_sizes
set_option Elab.async false
set_option linter.all false
set_option maxRecDepth 100000
set_option maxHeartbeats 4000000
namespace L2
open PySem PySem.Spec PyProof.Rows
abbrev Key:=Sum Int Str
def zpX:Key->Value->Bool
 |.inl k,v=>Value.isInt k v
 |.inr x,v=>Value.isStrOf x v
def zrw (w:World):Key->Int
 |.inl k=>hashInt k
 |.inr x=>hashStr w x
theorem yI:∀{k:Key}{v:Value},zpX k v=true->(∃i t,k=Sum.inl i/\v=Value.int i t)\/(∃x t,k=Sum.inr x/\v=Value.str x t)
 |.inl i,v,h=>by
  obtain⟨t,e⟩:=Value.isInt_shape (k:=i) (v:=v) h;exact .inl ⟨i,t,rfl,e⟩
 |.inr x,v,h=>by
  obtain⟨t,e⟩:=Value.isStrOf_shape (x:=x) (v:=v) h;exact .inr ⟨x,t,rfl,e⟩
theorem zqP (a b:Int):decide ((Sum.inl a:Key)=Sum.inl b)=(a == b):=by
 by_cases e:a=b
 ·subst e;simp
 ·have h:¬(Sum.inl a:Key)=Sum.inl b:=fun q=>e (Sum.inl.inj q);rw[decide_eq_false h];exact(beq_eq_false_iff_ne.mpr e).symm
theorem zqq (a b:Str):decide ((Sum.inr a:Key)=Sum.inr b)=decide (a=b):=by
 by_cases e:a=b
 ·subst e;simp
 ·have h:¬(Sum.inr a:Key)=Sum.inr b:=fun q=>e (Sum.inr.inj q);rw[decide_eq_false h,decide_eq_false e]
theorem zp6 (a:Int) (b:Str):decide ((Sum.inl a:Key)=Sum.inr b)=false:=decide_eq_false (fun q=>nomatch q)
theorem zqu (a:Str) (b:Int):decide ((Sum.inr a:Key)=Sum.inl b)=false:=decide_eq_false (fun q=>nomatch q)
def zmo (prog:Program) (w:World):PySem.KeyKind prog w Key where
 is:=zpX
 hash:=zrw w
 inj:=fun v a b ha hb=>by
  rcases yI ha with⟨i,t,rfl,rfl⟩|⟨x,t,rfl,rfl⟩
  ·rcases yI hb with⟨j,u,rfl,e⟩|⟨y,u,rfl,e⟩
   ·injection e with e1 _;rw[e1]
   ·exact nomatch e
  ·rcases yI hb with⟨j,u,rfl,e⟩|⟨y,u,rfl,e⟩
   ·exact nomatch e
   ·injection e with e1 _;rw[e1]
 byValue:=fun k v h=>by
  rcases yI h with⟨i,t,rfl,rfl⟩|⟨x,t,rfl,rfl⟩ <;> rfl
 pyHash:=fun hv h=>by
  rcases yI hv with⟨i,t,rfl,rfl⟩|⟨x,t,rfl,rfl⟩
  ·exact wpAny_pyHash_int h
  ·exact wpAny_pyHash_str h
 eqBool:=fun hu hv h=>by
  rcases yI hu with⟨i,t,rfl,rfl⟩|⟨x,t,rfl,rfl⟩
  ·rcases yI hv with⟨j,u,rfl,rfl⟩|⟨y,u,rfl,rfl⟩
   ·rw[zqP] at h;exact wpAny_eqBool_int h
   ·rw[zp6] at h;exact SeqAt.EqAt.int_str i t y u _ _ _ _ h
  ·rcases yI hv with⟨j,u,rfl,rfl⟩|⟨y,u,rfl,rfl⟩
   ·rw[zqu] at h;exact SeqAt.EqAt.str_int x t j u _ _ _ _ h
   ·rw[zqq] at h;exact wpAny_eqBool_str h
 «strs»:=fun k x t v h=>by
  rcases yI h with⟨i,u,rfl,e⟩|⟨y,u,rfl,e⟩
  ·exact nomatch e
  ·injection e with e1 _;subst e1;cases v <;> rfl
end L2
namespace L2
open PySem PySem.Spec PyProof.Rows
inductive V where
 |non|bl (b:Bool)|int (i:Int)|str (x:Str)|byt (b:Array UInt8)|flt (b:UInt64)|ref (a:Addr)|ty (n:String)
 deriving DecidableEq
def RelV:V->Value->Prop
 |.non,u=>u=Value.none
 |.bl b,u=>u=Value.bool b
 |.int i,u=>∃t,u=Value.int i t
 |.str x,u=>∃t,u=Value.str x t
 |.byt b,u=>∃t,u=Value.bytes b t
 |.flt b,u=>∃t,u=Value.float b t
 |.ref a,u=>u=Value.ref a
 |.ty n,u=>u=Value.type n
abbrev Vals:List V->List Value->Prop:=Paired RelV
theorem Vals.length {xs:List V}{us:List Value}(r:Vals xs us):xs.length=us.length:=Paired.length r
theorem Vals.get:∀{xs:List V}{us:List Value}{i:Nat}{x:V},Vals xs us->xs[i]?=some x->∃u,us[i]?=some u/\RelV x u
 |_,_,_,_,.nil,e=>by simp at e
 |_,_,0,_,.cons r _,e=>by simp at e;subst e;exact⟨_,rfl,r⟩
 |_,_,i+1,x,.cons _ t,e=>by
  obtain⟨u,h1,h2⟩:=Vals.get (i:=i) (x:=x) t (by simpa using e);exact⟨u,by simpa using h1,h2⟩
theorem Vals.append:∀{xs ys:List V}{us ws:List Value},Vals xs us->Vals ys ws->Vals (xs++ys) (us++ws)
 |_,_,_,_,.nil,s=>s
 |_,_,_,_,.cons r t,s=>.cons r (Vals.append t s)
theorem Vals.take:∀{xs:List V}{us:List Value}(n:Nat),Vals xs us->Vals (xs.take n) (us.take n)
 |_,_,0,_=>.nil
 |_,_,_+1,.nil=>.nil
 |_,_,n+1,.cons r t=>.cons r (Vals.take n t)
theorem Vals.drop:∀{xs:List V}{us:List Value}(n:Nat),Vals xs us->Vals (xs.drop n) (us.drop n)
 |_,_,0,r=>r
 |_,_,_+1,.nil=>.nil
 |_,_,n+1,.cons _ t=>Vals.drop n t
def RelO:Option V->Option Value->Prop
 |some v,some u=>RelV v u
 |none,none=>True
 |_,_=>False
def KV {κ:Type}:List (κ×V)->List (κ×Value)->Prop:=Paired fun(p:κ×V) (q:κ×Value)=>p.1=q.1/\RelV p.2 q.2
def kV:Key->V
 |.inl i=>.int i
 |.inr x=>.str x
inductive HO where
 |lst (xs:List V)
 |tup (xs:List V)
 |dK (kvs:List (Key×V))|dT (kvs:List (List Key×V))
 |set (S:Int->Bool) (n:Nat)
 |ins (C dx:Addr) (fs:List (Str×V))
 |own (x:Addr)
 |xd (fs:List (Str×V))
 |met (f x:Addr)
 |rng (lo hi:Int)
 |frz (o:Obj) (u:HO)
 |tbl (ps:Array Value)
 |ext (φ:Heap->Prop)
abbrev Hp:=Addr->Option HO
def upd (H:Hp) (a:Addr) (o:HO):Hp:=fun b=>if b=a then some o else H b
theorem zc {H:Hp}{a:Addr}{o:HO}:upd H a o a=some o:=by unfold upd;rw[if_pos rfl]
theorem zd {H:Hp}{a b:Addr}{o:HO}(h:b≠a):upd H a o b=H b:=by unfold upd;rw[if_neg h]
theorem yB {H:Hp}{a:Addr}{o u:HO}:upd (upd H a o) a u=upd H a u:=by
 funext b;unfold upd;split <;> rfl
theorem zbN {H:Hp}{a b:Addr}{o u:HO}(h:H a=some o) (h':H b=some u) (d:o≠u):a≠b:=by
 intro e;subst e;rw[h] at h';exact d (Option.some.inj h')
theorem zg {H:Hp}{a b:Addr}{o:HO}(h:H a=some o) (h':H b=none):a≠b:=by
 intro e;subst e;rw[h] at h';cases h'
section
variable (P:Program) (w:World)
def ObjOk (H:Hp) (h:Heap) (a:Addr):HO->Prop
 |.lst xs=>xs.length<=sizeLine/\∃(its:List Value) (n:Nat),Vals xs its/\h.get? a=some { cls:=.type "list",data:=.seq its.toArray n }
 |.tup xs=>xs.length<=sizeLine/\∃its:List Value,Vals xs its/\IsTup h a its.toArray
 |.dK kvs=>kvs.length<=sizeLine/\(a == sysModules)=false/\∃vs,KV kvs vs/\h.DictOf (zmo P w) a vs
 |.dT kvs=>kvs.length<=sizeLine/\(a == sysModules)=false/\∃xs:List (List Key×Addr×Value),
   Paired (fun(p:List Key×V) (q:List Key×Addr×Value)=>p.1=q.1/\H q.2.1=some (.tup (p.1.map kV))/\RelV p.2 q.2.2) kvs xs /\
   ∃o es ep,h.get? a=some o/\o.ExactDict/\o.data=.dict es ep/\es.toList=xs.map (entryOfKey (tupleKind (zmo P w)))/\(xs.map (·.1)).Nodup
 |.set S n=>h.SetOf (intKind P w) a S n
 |.ins C dx fs=>H dx=some (.own a)/\fs.length<=1000/\dx≠a/\h.get? a=some (PySem.W.instObj C dx) /\
   ∃mA,h.Ns1 dx mA/\(∀f,RelO (fs.lookup f) (mA f))/\PySem.Within mA (fs.map (·.1))
 |.own _=>∃o,h.get? a=some o
 |.xd fs=>∃mA,h.Ns1 a mA/\(∀f,RelO (fs.lookup f) (mA f))/\fs.length<=1000/\PySem.Within mA (fs.map (·.1))
 |.rng lo hi=>∃t u v,h.get? a=some { cls:=.type "range",data:=.fields #[.int lo t,.int hi u,.int 1 v] }
 |.frz o u=>h.get? a=some o/\ObjOk H h a u
 |.tbl ps=>h.get? a=some { cls:=.none,data:=.fields ps }
 |.met f x=>h.get? a=some (PySem.W.methodObj (.ref f) (.ref x))
 |.ext φ=>φ h/\(∃o,h.get? a=some o)/\∀h1 h2:Heap,φ h1->(∀o,h1.get? a=some o->h2.get? a=some o)->φ h2
def HOk (H:Hp) (h:Heap):Prop:=∀a o,H a=some o->ObjOk P w H h a o
end
section
variable {P:Program}{w:World}{H H':Hp}{h h':Heap}{a:Addr}{o:HO}
theorem ObjOk.lt (x:ObjOk P w H h a o):a<h.objs.size:=by
 cases o with
 |lst xs=>obtain⟨_,_,_,_,e⟩:=x;exact Heap.lt_size e
 |tup xs=>obtain⟨_,_,_,p⟩:=x;exact p.lt
 |dK kvs=>obtain⟨_,_,_,_,o,_,_,e,_⟩:=x;exact Heap.lt_size e
 |dT kvs=>obtain⟨_,_,_,_,o,_,_,e,_⟩:=x;exact Heap.lt_size e
 |set S n=>obtain⟨o,_,_,_,e,_⟩:=x;exact Heap.lt_size e
 |ins C dx fs=>obtain⟨_,_,_,e,_⟩:=x;exact Heap.lt_size e
 |own y=>obtain⟨_,e⟩:=x;exact Heap.lt_size e
 |xd fs=>obtain⟨_,⟨_,_,_,e,_⟩,_⟩:=x;exact Heap.lt_size e
 |rng lo hi=>obtain⟨_,_,_,e⟩:=x;exact Heap.lt_size e
 |frz ob u=>obtain⟨e,_⟩:=x;exact Heap.lt_size e
 |tbl ps=>exact Heap.lt_size (show h.get? a=some _ from x)
 |met f y=>exact Heap.lt_size (show h.get? a=some _ from x)
 |ext φ=>obtain⟨_,⟨_,e⟩,_⟩:=x;exact Heap.lt_size e
theorem Paired.mapP {α β:Type}{F G:α->β->Prop}:∀{l₁:List α}{l₂:List β},Paired F l₁ l₂->(∀a b,F a b->G a b)->Paired G l₁ l₂
 |_,_,.nil,_=>.nil
 |_,_,.cons r t,f=>.cons (f _ _ r) (Paired.mapP t f)
theorem ObjOk.stay (x:ObjOk P w H h a o) (k:∀b u,(b=a\/H b=some (.own a))->h.get? b=some u->h'.get? b=some u)
  (ho:∀b,H b=some (.own a)->H' b=some (.own a)) (ht:∀b xs,H b=some (.tup xs)->H' b=some (.tup xs)):ObjOk P w H' h' a o:=by
 induction o with
 |lst xs=>obtain⟨z,its,n,r,e⟩:=x;exact⟨z,its,n,r,k _ _ (.inl rfl) e⟩
 |tup xs=>obtain⟨z,its,r,ob,e,c⟩:=x;exact⟨z,its,r,ob,k _ _ (.inl rfl) e,c⟩
 |dK kvs=>obtain⟨z,y,vs,r,ob,es,ep,e,c⟩:=x;exact⟨z,y,vs,r,ob,es,ep,k _ _ (.inl rfl) e,c⟩
 |dT kvs =>
  obtain⟨z,y,xs,r,ob,es,ep,e,c⟩:=x;exact⟨z,y,xs,Paired.mapP r fun p q z=>⟨z.1,ht _ _ z.2.1,z.2.2⟩,ob,es,ep,k _ _ (.inl rfl) e,c⟩
 |set S n=>obtain⟨ob,es,ep,t,e,c⟩:=x;exact⟨ob,es,ep,t,k _ _ (.inl rfl) e,c⟩
 |ins C dx fs =>
  obtain⟨d,z,ne,e,mA,⟨od,es,ep,e2,c⟩,r⟩:=x;exact⟨ho _ d,z,ne,k _ _ (.inl rfl) e,mA,⟨od,es,ep,k _ _ (.inr d) e2,c⟩,r⟩
 |own y=>obtain⟨ob,e⟩:=x;exact⟨ob,k _ _ (.inl rfl) e⟩
 |xd fs=>obtain⟨mA,⟨od,es,ep,e,c⟩,r⟩:=x;exact⟨mA,⟨od,es,ep,k _ _ (.inl rfl) e,c⟩,r⟩
 |rng lo hi=>obtain⟨t,u,v,e⟩:=x;exact⟨t,u,v,k _ _ (.inl rfl) e⟩
 |frz ob u ih=>obtain⟨e,q⟩:=x;exact⟨k _ _ (.inl rfl) e,ih q⟩
 |tbl ps =>
  have e:h.get? a=some { cls:=.none,data:=.fields ps }:=x;show h'.get? a=some { cls:=.none,data:=.fields ps };exact k a _ (.inl rfl) e
 |met f y =>
  have e:h.get? a=some (PySem.W.methodObj (.ref f) (.ref y)):=x;show h'.get? a=some (PySem.W.methodObj (.ref f) (.ref y));exact k a _ (.inl rfl) e
 |ext φ=>obtain⟨p,⟨o,e⟩,st⟩:=x;exact⟨st _ _ p fun o q=>k _ _ (.inl rfl) q,⟨o,k _ _ (.inl rfl) e⟩,st⟩
theorem HOk.lt (x:HOk P w H h) (e:H a=some o):a<h.objs.size:=(x a o e).lt
theorem HOk.fresh (x:HOk P w H h) (e:h.objs.size<=a):H a=none:=by
 cases q:H a with
 |none=>rfl
 |some u=>exact absurd (Nat.lt_of_lt_of_le (x.lt q) e) (Nat.lt_irrefl _)
theorem HOk.kept (x:HOk P w H h) (k:∀b u,h.get? b=some u->h'.get? b=some u):HOk P w H h':=fun a o e =>
 (x a o e).stay (fun b u _ q=>k b u q) (fun _ q=>q) fun _ _ q=>q
theorem HOk.laid (x:HOk P w H h) (k:∀b u,h.get? b=some u->h'.get? b=some u) (hp:h.objs.size<=a) (new:ObjOk P w (upd H a o) h' a o):HOk P w (upd H a o) h':=fun b u e=>by
 have hn:=x.fresh hp;by_cases hb:b=a
 ·subst hb;rw[zc] at e;cases e;exact new
 ·rw[zd hb] at e;exact(x b u e).stay (fun c v _ q=>k c v q) (fun c q=>by rw[zd (zg q hn)];exact q) fun c xs q=>by rw[zd (zg q hn)];exact q
end
def Rd (H:Hp) (a:Addr) (u:HO):Prop:=H a=some u\/∃o,H a=some (.frz o u)
theorem Rd.ok {P:Program}{w:World}{H:Hp}{h:Heap}{a:Addr}{u:HO}(r:Rd H a u) (x:HOk P w H h):ObjOk P w H h a u:=by
 rcases r with r|⟨o,r⟩
 ·exact x a u r
 ·obtain⟨_,q⟩:=x a _ r;exact q
def Mut:Option HO->Prop
 |some (.lst _)=>True
 |some (.dK _)=>True
 |some (.dT _)=>True
 |some (.set _ _)=>True
 |some (.ins _ _ _)=>True
 |some (.ext _)=>True
 |some (.xd _)=>True
 |_=>False
section
variable {P:Program}{w:World}{H:Hp}{h h':Heap}{x e:Addr}{o':HO}
theorem HOk.write (ok:HOk P w H h) (mu:Mut (H x)) (he:e=x\/H e=some (.own x)) (k:∀b u,b≠e->h.get? b=some u->h'.get? b=some u) (heo:∃u,h'.get? e=some u)
  (new:ObjOk P w (upd H x o') h' x o'):HOk P w (upd H x o') h':=fun b u q=>by
 have nown:∀c y,H c=some (.own y)->c≠x:=fun c y r z=>by subst z;rw[r] at mu;exact mu
 have ntup:∀c xs,H c=some (.tup xs)->c≠x:=fun c xs r z=>by subst z;rw[r] at mu;exact mu
 by_cases hb:b=x
 ·subst hb;rw[zc] at q;cases q;exact new
 ·rw[zd hb] at q;by_cases hbe:b=e
  ·have q':H b=some (.own x):=by
    rcases he with z|z
    ·exact absurd (hbe.trans z) hb
    ·rw[hbe];exact z
   rw[q] at q';cases q';obtain⟨v,hv⟩:=heo;exact⟨v,by rw[hbe];exact hv⟩
  ·refine(ok b u q).stay (fun c v hc r=>k c v ?_ r) (fun c r=>by rw[zd (nown c b r)];exact r) fun c xs r=>by rw[zd (ntup c xs r)];exact r
   rcases hc with rfl|hc
   ·exact hbe
   ·rintro rfl;rcases he with z|z
    ·exact nown c b hc z
    ·rw[hc] at z;cases z;exact hb rfl
end
structure Un (fs ex:List Addr) (H H':Hp) (h h':Heap):Prop where
 keep:∀b o,h.get? b=some o->H b=none->b∉fs->b∉ex->h'.get? b=some o
 slot:∀b o,h.get? b=some o->H b=none->b∈fs->b∉ex->∃sl,h'.get? b=some { o with slots:=sl }
 free:∀b o,h.get? b=some o->H b=none->b∉ex->H' b=none
 there:∀b o,h.get? b=some o->b∉ex->∃o',h'.get? b=some o'
 tups:∀b xs,H b=some (.tup xs)->H' b=some (.tup xs)
 frzs:∀b o u,H b=some (.frz o u)->H' b=some (.frz o u)
 tbls:∀b ps,H b=some (.tbl ps)->∃more,H' b=some (.tbl (ps++more))
section
variable {fs fs' ex ex':List Addr}{H H1 H2:Hp}{h h1 h2 h':Heap}{a x e:Addr}{o:HO}
theorem Un.any (u:Un fs ex H H1 h h1) {b:Addr}{ob:Obj}(q:h.get? b=some ob) (n:H b=none) (hx:b∉ex):∃sl,h1.get? b=some { ob with slots:=sl }:=by
 by_cases hb:b∈fs
 ·exact u.slot b ob q n hb hx
 ·exact⟨ob.slots,u.keep b ob q n hb hx⟩
theorem Un.kept (k:∀b u,h.get? b=some u->h'.get? b=some u):Un fs ex H H h h' :=
 ⟨fun b ob q _ _ _=>k b ob q,fun b ob q _ _ _=>⟨ob.slots,k b ob q⟩,fun _ _ _ n _=>n,fun b ob q _=>⟨ob,k b ob q⟩,fun _ _ q=>q,fun _ _ _ q=>q,fun _ ps q=>⟨#[],by rw[q];simp⟩⟩
theorem Un.refl:Un fs ex H H h h:=Un.kept fun _ _ q=>q
theorem Un.laid (k:∀b u,h.get? b=some u->h'.get? b=some u) (hp:h.objs.size<=a) (hn:H a=none):Un fs ex H (upd H a o) h h' where
 keep:=fun b u q _ _ _=>k b u q
 slot:=fun b u q _ _ _=>⟨u.slots,k b u q⟩
 free:=fun b u q n _=>by rw[zd (Nat.ne_of_lt (Nat.lt_of_lt_of_le (Heap.lt_size q) hp))];exact n
 there:=fun b u q _=>⟨u,k b u q⟩
 tups:=fun b xs q=>by rw[zd (zg q hn)];exact q
 frzs:=fun b u xs q=>by rw[zd (zg q hn)];exact q
 tbls:=fun b ps q=>⟨#[],by rw[zd (zg q hn),q];simp⟩
theorem Un.write (mu:Mut (H x)) (he:e=x\/H e=some (.own x)) (k:∀b u,b≠e->h.get? b=some u->h'.get? b=some u) (heo:∃u,h'.get? e=some u):Un fs ex H (upd H x o) h h':=by
 have hx:∀b,H b=none->b≠x:=fun b n z=>by subst z;rw[n] at mu;exact mu
 have hb:∀b,H b=none->b≠e:=fun b n z=>by
  subst z;rcases he with r|r
  ·exact hx b n r
  ·rw[n] at r;cases r
 have hm:∀b u,H b=some u->¬Mut (some u)->b≠x:=fun b u q nm z=>by subst z;rw[q] at mu;exact nm mu
 refine⟨fun b u q n _ _=>k b u (hb b n) q,fun b u q n _ _=>⟨u.slots,k b u (hb b n) q⟩,fun b u q n _=>by rw[zd (hx b n)];exact n,fun b u q _=>?_,
  fun b xs q=>by rw[zd (hm b _ q fun z=>z)];exact q,fun b u xs q=>by rw[zd (hm b _ q fun z=>z)];exact q,fun b ps q=>⟨#[],by rw[zd (hm b _ q fun z=>z),q];simp⟩⟩
 by_cases hbe:b=e
 ·subst hbe;exact heo
 ·exact⟨u,k b u hbe q⟩
end
def trk (h:Heap) (H:Hp):List Addr:=(List.range h.objs.size).filter fun a=>(H a).isSome
def zjE (h:Heap) (H:Hp):Heap:=PySem.W.hideAll h (trk h H)
theorem znn (h:Heap) (H:Hp):(zjE h H).objs.size=h.objs.size:=PySem.W.hideAll_size _ _
theorem zn9 {h:Heap}{H:Hp}{b:Addr}{o:Obj}(e:h.get? b=some o) (n:H b=none):(zjE h H).get? b=some o :=
 PySem.W.hideAll_get _ e fun hm=>by
  have q:(H b).isSome=true:=(List.mem_filter.mp hm).2;rw[n] at q;simp at q
theorem zo1 {h:Heap}{H:Hp}{b:Addr}{o:Obj}(e:(zjE h H).get? b=some o):h.get? b=some o/\H b=none:=by
 have e':h.get? b=some o:=PySem.W.of_hideAll (trk h H) e;refine⟨e',?_⟩;cases q:H b with
 |none=>rfl
 |some x =>
  have hm:b∈trk h H:=List.mem_filter.mpr ⟨List.mem_range.mpr (Heap.lt_size e'),by simp[q]⟩;have z:(zjE h H).get? b=none:=PySem.W.hideAll_none (trk h H) hm;rw[z] at e;cases e
def zoY (g h:Heap) (L:Addr):List (Addr×Obj):=(List.range h.objs.size).filterMap fun a=>if a=L\/(g.get? a).isSome=true then none else(h.get? a).map fun o=>(a,o)
def rest (g h:Heap) (L d:Addr):List (Addr×Obj):=(zoY g h L).filter fun p=>decide (p.1≠d)
end L2
namespace L2
open PySem PySem.Spec PyProof.Rows
structure Mod (K:PySem.W.Frag) (mg:Str->Option Value) (base:Heap):Prop where
 kin:K.In base
 glob:base.Ns mainGlobals mg
 blt:∃mb,base.Ns builtinsNs mb/\∀x:Str,x ≠ "__name__" -> mb x=bootBuiltins x
 nolimit:base.NoLimit
structure Cx where
 prog:Program
 w:World
 K:PySem.W.Frag
 mg:Str->Option Value
 base:Heap
 A:Around
 N:List Str
 s_0:Shared
 H_0:Hp
 env:Env
 outer:List Env
 stack:List Env
 ex:List Addr
 fn:Str->Bool
 calm:Bool
 pn:List (Addr×Obj)
 xe:Value->Shared->Prop
def frs (l:List Env):List Addr:=l.filterMap (·.frame)
abbrev Cx.fs (X:Cx):List Addr:=frs X.outer
def Vis (sc:Scope) (x:Str):Prop:=sc.names.lookup x=some .local\/sc.names.lookup x=some .cell\/sc.names.lookup x=some .free
def Loc (sc:Scope) (x:Str):Prop:=sc.names.lookup x=some .local\/sc.names.lookup x=some .cell
theorem lq {sc:Scope}{x:Str}(h:(match sc.names.lookup x with
  |some .local=>true
  |some .cell=>true
  |_=>false)=true):Loc sc x:=by
 unfold Loc;split at h
 ·rename_i e;exact .inl e
 ·rename_i e;exact .inr e
 ·cases h
def zrv (env:Env) (h:Heap) (m:Str->Option Value) (x:Str) (u:Value):Prop :=
 (env.kindOf x=some .local/\m x=some u)\/((env.kindOf x=some .cell\/env.kindOf x=some .free)/\∃c,env.cells.lookup x=some c/\h.IsCell c (some u))
structure Cx.Ok (X:Cx):Prop where
 mod:Mod X.K X.mg X.base
 kind:X.env.scope.kind=.function
 glob:X.env.globals=mainGlobals
 blt:X.env.builtins=builtinsNs
 above:X.s_0.heap.objs.size<=X.env.locals
 inj:∀x y c,X.env.cells.lookup x=some c->X.env.cells.lookup y=some c->x=y
 has:∀x,(X.env.kindOf x=some .cell\/X.env.kindOf x=some .free)->∃c,X.env.cells.lookup x=some c
 cab:∀x c,X.fn x=true->X.env.cells.lookup x=some c->X.s_0.heap.objs.size<=c
 hd:X.calm=true->X.A.handled=none
 frames:X.A.frames=some X.stack
 stk:X.stack=X.outer\/(X.stack=X.env::X.outer/\X.env.frame=some X.env.locals)
 exf:∀b∈X.ex,b≠X.env.locals/\∀x c,X.env.cells.lookup x=some c->c≠b
 bs:∀b o,X.base.get? b=some o->X.s_0.heap.get? b=some o/\X.H_0 b=none
 bsz:X.base.objs.size<=X.s_0.heap.objs.size
 noex:∀b o,X.base.get? b=some o->b∉X.ex
 exfs:∀b∈X.ex,b∉X.fs
 funs:X.s_0.heap.FunFrames X.base X.outer
 frf:∀b∈X.fs,X.H_0 b=none
structure Inv (X:Cx) (pins:List (Addr×Obj)) (σ:List (Option V)) (H:Hp) (s:Shared):Prop where
 ok:X.Ok
 os:s.os=X.s_0.os
 bare:AllBare s.gens
 base:Un X.fs X.ex X.H_0 H X.s_0.heap s.heap
 loc:∃m,s.heap.Ns X.env.locals m/\∀(i:Nat) (x:Str) (v:V),X.N[i]?=some x->σ[i]?=some (some v)->Vis X.env.scope x->∃u,RelV v u/\zrv X.env s.heap m x u
 cell:∀x c,X.env.cells.lookup x=some c->∃v,s.heap.IsCell c v
 free:H X.env.locals=none
 freeC:∀x c,X.env.cells.lookup x=some c->H c=none
 pin:∀p∈X.pn++pins,s.heap.get? p.1=some p.2/\H p.1=none/\p.1≠X.env.locals/\p.1∉X.fs/\∀v,p.2.data≠.cell v
 hok:HOk X.prog X.w H s.heap
 len:σ.length=X.N.length
section
variable {X:Cx}{pins:List (Addr×Obj)}{σ:List (Option V)}{H H':Hp}{s:Shared}{h':Heap}
theorem Cx.Ok.nofr (ok:X.Ok) {b:Addr}{o:Obj}(e:X.base.get? b=some o):b∉X.fs:=fun hb=>by
 have:=(ok.funs.mem hb).1;rw[e] at this;cases this
theorem Inv.bs (I:Inv X pins σ H s):∀b o,X.base.get? b=some o->s.heap.get? b=some o/\H b=none:=fun b o e =>
 ⟨I.base.keep b o (I.ok.bs b o e).1 (I.ok.bs b o e).2 (I.ok.nofr e) (I.ok.noex b o e),I.base.free b o (I.ok.bs b o e).1 (I.ok.bs b o e).2 (I.ok.noex b o e)⟩
theorem Inv.bk (I:Inv X pins σ H s):∀b o,X.base.get? b=some o->s.heap.get? b=some o:=fun b o e=>(I.bs b o e).1
theorem Inv.mod (I:Inv X pins σ H s):Mod X.K X.mg X.base:=I.ok.mod
theorem Inv.kIn (I:Inv X pins σ H s):X.K.In s.heap:=I.ok.mod.kin.keeps I.bk
theorem Inv.lt (I:Inv X pins σ H s):X.env.locals<s.heap.objs.size:=let ⟨_,hn,_⟩:=I.loc;hn.lt
theorem Inv.sz (I:Inv X pins σ H s):X.s_0.heap.objs.size<=s.heap.objs.size:=Nat.le_trans I.ok.above (Nat.le_of_lt I.lt)
theorem Inv.nofs (I:Inv X pins σ H s) {a:Addr}(h:s.heap.objs.size<=a):a∉X.fs:=fun hb=>by
 obtain⟨_,o,ho,_⟩:=I.ok.funs.mem hb;exact absurd (Nat.lt_of_lt_of_le (Heap.lt_size ho) (Nat.le_trans I.sz h)) (Nat.lt_irrefl _)
theorem Inv.cne (I:Inv X pins σ H s):∀x c,X.env.cells.lookup x=some c->c≠X.env.locals:=fun x c e z=>by
 obtain⟨v,o,ho,hd⟩:=I.cell x c e;obtain⟨m,⟨o',es,ep,ho',hd',_⟩,_⟩:=I.loc;rw[z,ho'] at ho;cases ho;rw[hd'] at hd;cases hd
theorem Inv.funs (I:Inv X pins σ H s):s.heap.FunFrames X.base X.outer:=by
 have all:∀(l:List Env),(∀b∈frs l,b∈X.fs)->X.s_0.heap.FunFrames X.base l->s.heap.FunFrames X.base l:=by
  intro l
  induction l with
  |nil=>intro _ _;trivial
  |cons env r ih =>
   intro hs hl;obtain⟨hk,⟨L,o,hf,hn,ho,hd⟩,hr⟩:=hl;have hL:L∈X.fs:=hs L (by unfold frs;rw[List.filterMap_cons,hf];exact List.mem_cons_self);obtain⟨sl,e⟩:=I.base.slot L o ho (I.ok.frf L hL) hL fun z=>I.ok.exfs L z hL;exact⟨hk,⟨L,_,hf,hn,e,hd⟩,ih (fun b hb=>hs b (by unfold frs;rw[List.filterMap_cons,hf];exact List.mem_cons_of_mem _ hb)) hr⟩
 exact all X.outer (fun _ hb=>hb) I.ok.funs
theorem Inv.stack (I:Inv X pins σ H s):s.heap.FunFrames X.base X.stack:=by
 rcases I.ok.stk with e|⟨e,hf⟩
 ·rw[e];exact I.funs
 ·rw[e];obtain⟨m,hn,_⟩:=I.loc;refine .cons (by rw[I.ok.kind];decide) hf hn ?_ I.funs;exact Heap.get?_none_of_le (Nat.le_trans I.ok.bsz I.ok.above)
theorem Inv.stkSub (I:Inv X pins σ H s):∀b∈frs X.stack,b∈X.env.locals::X.fs:=fun b hb=>by
 rcases I.ok.stk with e|⟨e,hf⟩
 ·rw[e] at hb;exact List.mem_cons_of_mem _ hb
 ·rw[e] at hb;unfold frs at hb;rw[List.filterMap_cons,hf] at hb;exact hb
theorem Inv.stkFree (I:Inv X pins σ H s):∀b∈frs X.stack,H b=none:=fun b hb=>by
 rcases List.mem_cons.mp (I.stkSub b hb) with e|hb
 ·rw[e];exact I.free
 ·obtain⟨_,o,ho,_⟩:=I.ok.funs.mem hb;exact I.base.free b o ho (I.ok.frf b hb) fun z=>I.ok.exfs b z hb
theorem Inv.step {g':Array GenState}{t':Nat}{d':Drawn}{ch:List Addr}(I:Inv X pins σ H s)
  (hch:∀b∈ch,(b∈X.ex\/X.s_0.heap.objs.size<=b)/\b≠X.env.locals/\(∀x c,X.env.cells.lookup x=some c->c≠b)/\∀p∈X.pn++pins,p.1≠b)
  (keep:∀b o,b≠X.env.locals->b∉X.fs->b∉ch->s.heap.get? b=some o->H b=none->h'.get? b=some o)
  (slot:∀b o,b≠X.env.locals->b∈X.fs->b∉ch->s.heap.get? b=some o->H b=none->∃sl,h'.get? b=some { o with slots:=sl }) (free:∀b o,b∉ch->s.heap.get? b=some o->H b=none->H' b=none)
  (there:∀b o,b∉ch->s.heap.get? b=some o->∃o',h'.get? b=some o')
  (tups:∀b xs,H b=some (.tup xs)->H' b=some (.tup xs)) (frzs:∀b o u,H b=some (.frz o u)->H' b=some (.frz o u)) (tbls:∀b ps,H b=some (.tbl ps)->∃more,H' b=some (.tbl (ps++more)))
  (ns:∀m,s.heap.Ns X.env.locals m->h'.Ns X.env.locals m) (hok:HOk X.prog X.w H' h') (hg:AllBare g') :
  Inv X pins σ H' { s with heap:=h',gens:=g',drawn:=d',toks:=t' }:=by
 have neL:∀b o,X.s_0.heap.get? b=some o->b≠X.env.locals:=fun b o e=>Nat.ne_of_lt (Nat.lt_of_lt_of_le (Heap.lt_size e) I.ok.above);have neC:∀b o,X.s_0.heap.get? b=some o->b∉X.ex->b∉ch:=fun b o e hx hb=>by
  rcases(hch b hb).1 with z|z
  ·exact hx z
  ·exact absurd (Nat.lt_of_lt_of_le (Heap.lt_size e) z) (Nat.lt_irrefl _)
 have cellK:∀x c,X.env.cells.lookup x=some c->∀v,s.heap.IsCell c v->h'.IsCell c v:=fun x c e v ⟨o,ho,hd⟩=>by
  have nch:c∉ch:=fun z=>(hch c z).2.2.1 x c e rfl;by_cases hc:c∈X.fs
  ·obtain⟨sl,q⟩:=slot c o (I.cne x c e) hc nch ho (I.freeC x c e);exact⟨_,q,hd⟩
  ·exact⟨o,keep c o (I.cne x c e) hc nch ho (I.freeC x c e),hd⟩
 refine⟨I.ok,I.os,hg,⟨fun b o e n hb hx=>?_,fun b o e n hb hx=>?_,fun b o e n hx=>?_,fun b o e hx=>?_,fun b xs e=>tups b xs (I.base.tups b xs e),fun b o xs e=>frzs b o xs (I.base.frzs b o xs e),fun b ps e=>?_⟩,?_,fun x c e=>?_,?_,fun x c e=>?_,fun p hp=>?_,hok,I.len⟩
 ·exact keep b o (neL b o e) hb (neC b o e hx) (I.base.keep b o e n hb hx) (I.base.free b o e n hx)
 ·obtain⟨sl,e1⟩:=I.base.slot b o e n hb hx;obtain⟨sl',e2⟩:=slot b _ (neL b o e) hb (neC b o e hx) e1 (I.base.free b o e n hx);exact⟨sl',e2⟩
 ·obtain⟨o',e1⟩:=I.base.there b o e hx;exact free b o' (neC b o e hx) e1 (I.base.free b o e n hx)
 ·obtain⟨o',e1⟩:=I.base.there b o e hx;exact there b o' (neC b o e hx) e1
 ·obtain⟨m1,e1⟩:=I.base.tbls b ps e;obtain⟨m2,e2⟩:=tbls b _ e1;exact⟨m1++m2,by rw[e2,Array.append_assoc]⟩
 ·obtain⟨m,hn,hl⟩:=I.loc;refine⟨m,ns m hn,fun i x v e1 e2 e3=>?_⟩;obtain⟨u,r,l⟩:=hl i x v e1 e2 e3;refine⟨u,r,?_⟩;rcases l with l|⟨k,c,e,z⟩
  ·exact .inl l
  ·exact .inr ⟨k,c,e,cellK x c e _ z⟩
 ·obtain⟨v,z⟩:=I.cell x c e;exact⟨v,cellK x c e v z⟩
 ·obtain⟨m,⟨o,_,_,ho,_⟩,_⟩:=I.loc;exact free _ o (fun z=>(hch _ z).2.1 rfl) ho I.free
 ·obtain⟨v,o,ho,hd⟩:=I.cell x c e;exact free c o (fun z=>(hch c z).2.2.1 x c e rfl) ho (I.freeC x c e)
 ·obtain⟨e,n,ne,nf,d⟩:=I.pin p hp;have nch:p.1∉ch:=fun z=>(hch p.1 z).2.2.2 p hp rfl;exact⟨keep p.1 p.2 ne nf nch e n,free p.1 p.2 nch e n,ne,nf,d⟩
theorem Inv.un {t':Nat}(I:Inv X pins σ H s) (u:Un X.fs [] H H' s.heap h') (hok:HOk X.prog X.w H' h'):Inv X pins σ H' { s with heap:=h',toks:=t' }:=by
 obtain⟨m,⟨o,es,ep,ho,r⟩,_⟩:=id I.loc;obtain⟨sl,hL⟩:=u.any ho I.free (by simp);exact I.step (g':=s.gens) (d':=s.drawn) (ch:=[]) (fun _ z=>nomatch z) (fun b o _ hb _ e n=>u.keep b o e n hb (by simp)) (fun b o _ hb _ e n=>u.slot b o e n hb (by simp)) (fun b o _ e n=>u.free b o e n (by simp)) (fun b o _ e=>u.there b o e (by simp)) u.tups u.frzs u.tbls (fun m' hm=>by
  obtain⟨o',es',ep',ho',r'⟩:=hm;rw[ho] at ho';cases ho';exact⟨_,es',ep',hL,r'⟩) hok I.bare
theorem Inv.call {g':Array GenState}{t':Nat}{d':Drawn}{ch:List Addr}(I:Inv X pins σ H s) (u:Un (frs X.stack) ch H H' s.heap h') (hok:HOk X.prog X.w H' h') (hg:AllBare g')
  (hch:∀b∈ch,(b∈X.ex\/X.s_0.heap.objs.size<=b)/\b≠X.env.locals/\(∀x c,X.env.cells.lookup x=some c->c≠b)/\∀p∈X.pn++pins,p.1≠b) :
  Inv X pins σ H' { s with heap:=h',gens:=g',drawn:=d',toks:=t' }:=by
 obtain⟨m,⟨o,es,ep,ho,r⟩,_⟩:=id I.loc;obtain⟨sl,hL⟩:=u.any ho I.free fun z=>(hch _ z).2.1 rfl;exact I.step (ch:=ch) hch (fun b o hL hb hc e n=>u.keep b o e n (fun z=>(List.mem_cons.mp (I.stkSub b z)).elim hL hb) hc) (fun b o _ _ hc e n=>u.any e n hc) (fun b o hc e n=>u.free b o e n hc) (fun b o hc e=>u.there b o e hc) u.tups u.frzs u.tbls (fun m' hm=>by
  obtain⟨o',es',ep',ho',r'⟩:=hm;rw[ho] at ho';cases ho';exact⟨_,es',ep',hL,r'⟩) hok hg
theorem Inv.turned {t':Nat}{it:Addr}(I:Inv X pins σ H s) (k:∀b o,b≠it->s.heap.get? b=some o->h'.get? b=some o) (hn:H it=none) (hL:it≠X.env.locals)
  (h1:it∈X.ex\/X.s_0.heap.objs.size<=it) (h2:∀x c,X.env.cells.lookup x=some c->c≠it) (h3:∀p∈X.pn++pins,p.1≠it):Inv X pins σ H { s with heap:=h',toks:=t' }:=by
 have nit:∀b u,H b=some u->b≠it:=fun b u e z=>by rw[z,hn] at e;cases e
 refine I.step (g':=s.gens) (d':=s.drawn) (ch:=[it]) (fun b hb=>?_) (fun b o _ _ hc e _=>k b o (fun z=>hc (by simp[z])) e) (fun b o _ _ hc e _=>⟨o.slots,k b o (fun z=>hc (by simp[z])) e⟩) (fun _ _ _ _ n=>n)
  (fun b o hc e=>⟨o,k b o (fun z=>hc (by simp[z])) e⟩) (fun _ _ e=>e) (fun _ _ _ e=>e) (fun b ps e=>⟨#[],by rw[e];simp⟩) (fun m hm=>?_) (fun b u e=>?_) I.bare
 ·have e:b=it:=by simpa using hb
  subst e;exact⟨h1,hL,h2,h3⟩
 ·obtain⟨o,es,ep,ho,r⟩:=hm;exact⟨o,es,ep,k _ o (Ne.symm hL) ho,r⟩
 ·refine(I.hok b u e).stay (fun c v hc q=>k c v ?_ q) (fun _ q=>q) fun _ _ q=>q;rcases hc with z|z
  ·rw[z];exact nit b u e
  ·exact nit c _ z
theorem Inv.tok (I:Inv X pins σ H s) (t:Nat):Inv X pins σ H { s with toks:=t }:=I.un (h':=s.heap) (t':=t) Un.refl I.hok
theorem Inv.kept {t':Nat}(I:Inv X pins σ H s) (k:∀b u,s.heap.get? b=some u->h'.get? b=some u):Inv X pins σ H { s with heap:=h',toks:=t' }:=I.un (Un.kept k) (I.hok.kept k)
theorem Inv.laid {a:Addr}{o:HO}{t':Nat}(I:Inv X pins σ H s) (k:∀b u,s.heap.get? b=some u->h'.get? b=some u) (hp:s.heap.objs.size<=a) (new:ObjOk X.prog X.w (upd H a o) h' a o) :
  Inv X pins σ (upd H a o) { s with heap:=h',toks:=t' }:=I.un (Un.laid k hp (I.hok.fresh hp)) (I.hok.laid k hp new)
theorem Inv.write {x e:Addr}{o:HO}{t':Nat}(I:Inv X pins σ H s) (mu:Mut (H x)) (he:e=x\/H e=some (.own x)) (k:∀b u,b≠e->s.heap.get? b=some u->h'.get? b=some u) (heo:∃u,h'.get? e=some u)
  (new:ObjOk X.prog X.w (upd H x o) h' x o):Inv X pins σ (upd H x o) { s with heap:=h',toks:=t' }:=I.un (Un.write mu he k heo) (I.hok.write mu he k heo new)
theorem Inv.weak {σ':List (Option V)}(I:Inv X pins σ H s) (hl:σ'.length=σ.length) (w:∀(i:Nat) v,σ'[i]?=some (some v)->σ[i]?=some (some v)):Inv X pins σ' H s :=
 ⟨I.ok,I.os,I.bare,I.base,let ⟨m,hn,hl'⟩:=I.loc;⟨m,hn,fun i x v e1 e2 e3=>hl' i x v e1 (w i v e2) e3⟩,I.cell,I.free,I.freeC,I.pin,I.hok,hl.trans I.len⟩
theorem Inv.pins_of {pins':List (Addr×Obj)}(I:Inv X pins σ H s) (h:∀p∈pins',s.heap.get? p.1=some p.2/\H p.1=none/\p.1≠X.env.locals/\p.1∉X.fs/\∀v,p.2.data≠.cell v):Inv X pins' σ H s :=
 ⟨I.ok,I.os,I.bare,I.base,I.loc,I.cell,I.free,I.freeC,fun p hp=>(List.mem_append.mp hp).elim (fun z=>I.pin p (List.mem_append_left _ z)) (h p),I.hok,I.len⟩
theorem ze5 {N:List Str}(hN:N.Nodup) {i j:Nat}{x:Str}(a:N[i]?=some x) (b:N[j]?=some x):i=j:=by
 obtain⟨h1,e1⟩:=List.getElem?_eq_some_iff.mp a;obtain⟨h2,e2⟩:=List.getElem?_eq_some_iff.mp b;exact(List.getElem_inj hN).mp (e1.trans e2.symm)
theorem zjd {M:Model}{A:Around}{E:Value->Shared->Prop}{i:Nat}{x:Str}{v:V}{u:Value}{Q:Unit->Shared->Prop}(I:Inv X pins σ H s) (hN:X.N.Nodup) (hi:X.N[i]?=some x) (hx:Loc X.env.scope x) (r:RelV v u)
  (h:∀s',Inv X pins (σ.set i (some v)) H s'->(∃a,Heap.SameBut a s.heap s'.heap/\(a=X.env.locals\/X.env.cells.lookup x=some a))->Q () s') (hf:X.fn x=true\/X.env.scope.names.lookup x=some .local:=by first|exact .inl rfl|exact .inr rfl|assumption):wpAny M A (storeName X.env x u) Q E s:=by
 obtain⟨m,hn,hl⟩:=id I.loc;have hcls:(X.env.scope.kind == .class||(X.env.scope.kind == .module&&X.env.locals != X.env.globals))=false:=by rw[I.ok.kind];rfl
 have hiσ:i<σ.length:=by rw[I.len];exact(List.getElem?_eq_some_iff.mp hi).1
 have cne:=I.cne;have tracked:∀{a:Addr} {h':Heap},(∃o,s.heap.get? a=some o/\H a=none)->Heap.SameBut a s.heap h'->HOk X.prog X.w H h':=fun{a h'} ha hs b ob e=>by
  obtain⟨_,_,hfree⟩:=ha;refine(I.hok b ob e).stay (fun c w' hc q=>(hs.2 c ?_).trans q) (fun _ q=>q) fun _ _ q=>q;rintro rfl;rcases hc with rfl|hc
  ·rw[hfree] at e;cases e
  ·rw[hfree] at hc;cases hc
 rcases hx with hk|hk
 ·refine wpAny_storeName_local hk hn (fun h' hn' hs=>?_) hcls;obtain⟨oL,_,_,hoL,_⟩:=id hn;refine h _ ⟨I.ok,I.os,I.bare,⟨fun b o e n hb hx=>?_,fun b o e n hb hx=>?_,I.base.free,fun b o e hx=>?_,I.base.tups,I.base.frzs,I.base.tbls⟩,⟨_,hn',fun j y v' e1 e2 e3=>?_⟩,fun y c e=>?_,I.free,I.freeC,fun p hp=>?_,tracked ⟨oL,hoL,I.free⟩ hs,by simpa using I.len⟩ ⟨_,hs,.inl rfl⟩
  ·exact(hs.2 b (Nat.ne_of_lt (Nat.lt_of_lt_of_le (Heap.lt_size e) I.ok.above))).trans (I.base.keep b o e n hb hx)
  ·obtain⟨sl,e1⟩:=I.base.slot b o e n hb hx;exact⟨sl,(hs.2 b (Nat.ne_of_lt (Nat.lt_of_lt_of_le (Heap.lt_size e) I.ok.above))).trans e1⟩
  ·obtain⟨o',e1⟩:=I.base.there b o e hx;exact⟨o',(hs.2 b (Nat.ne_of_lt (Nat.lt_of_lt_of_le (Heap.lt_size e) I.ok.above))).trans e1⟩
  ·by_cases hj:j=i
   ·subst hj;rw[hi] at e1;cases e1;rw[List.getElem?_set_self hiσ] at e2;cases e2;exact⟨u,r,.inl ⟨hk,by simp⟩⟩
   ·rw[List.getElem?_set_ne (Ne.symm hj)] at e2;obtain⟨u',r',q⟩:=hl j y v' e1 e2 e3;refine⟨u',r',?_⟩;rcases q with⟨k,e⟩|⟨k,c,e,z⟩
    ·refine .inl ⟨k,?_⟩;have:y≠x:=fun e=>hj (ze5 hN e1 (e ▸ hi));simp[this,e]
    ·exact .inr ⟨k,c,e,z.sameBut hs (cne y c e)⟩
  ·obtain⟨w',z⟩:=I.cell y c e;exact⟨w',z.sameBut hs (cne y c e)⟩
  ·obtain⟨e,n,ne,nf,d⟩:=I.pin p hp;exact⟨(hs.2 p.1 ne).trans e,n,ne,nf,d⟩
 ·have hfn:X.fn x=true:=by
   rcases hf with z|z
   ·exact z
   ·rw[z] at hk;cases hk
  obtain⟨c,hc⟩:=I.ok.has x (.inl hk);obtain⟨w',z⟩:=I.cell x c hc;refine wpAny_storeName_cell I.ok.kind hk hc z (fun h' hc' hs=>?_);obtain⟨oc,hoc,hocd⟩:=id z;refine h { s with heap:=h' } ⟨I.ok,I.os,I.bare,⟨fun b o e n hb hx=>?_,fun b o e n hb hx=>?_,I.base.free,fun b o e hx=>?_,I.base.tups,I.base.frzs,I.base.tbls⟩,⟨m,hn.sameBut hs (Ne.symm (cne x c hc)),fun j y v' e1 e2 e3=>?_⟩,fun y c' e=>?_,I.free,I.freeC,fun p hp=>?_,tracked ⟨oc,hoc,I.freeC x c hc⟩ hs,by simpa using I.len⟩ ⟨c,hs,.inr hc⟩
  ·exact(hs.2 b (Nat.ne_of_lt (Nat.lt_of_lt_of_le (Heap.lt_size e) (I.ok.cab x c hfn hc)))).trans (I.base.keep b o e n hb hx)
  ·obtain⟨sl,e1⟩:=I.base.slot b o e n hb hx;exact⟨sl,(hs.2 b (Nat.ne_of_lt (Nat.lt_of_lt_of_le (Heap.lt_size e) (I.ok.cab x c hfn hc)))).trans e1⟩
  ·obtain⟨o',e1⟩:=I.base.there b o e hx;exact⟨o',(hs.2 b (Nat.ne_of_lt (Nat.lt_of_lt_of_le (Heap.lt_size e) (I.ok.cab x c hfn hc)))).trans e1⟩
  ·by_cases hj:j=i
   ·subst hj;rw[hi] at e1;cases e1;rw[List.getElem?_set_self hiσ] at e2;cases e2;exact⟨u,r,.inr ⟨.inl hk,c,hc,hc'⟩⟩
   ·rw[List.getElem?_set_ne (Ne.symm hj)] at e2;obtain⟨u',r',q⟩:=hl j y v' e1 e2 e3;refine⟨u',r',?_⟩;rcases q with q|⟨k,c',e,z'⟩
    ·exact .inl q
    ·refine .inr ⟨k,c',e,z'.sameBut hs ?_⟩;rintro rfl;exact hj (ze5 hN e1 (I.ok.inj _ _ _ e hc ▸ hi))
  ·by_cases hcc:c'=c
   ·subst hcc;exact⟨_,hc'⟩
   ·obtain⟨w2,z2⟩:=I.cell y c' e;exact⟨w2,z2.sameBut hs hcc⟩
  ·obtain⟨e,n,ne,nf,d⟩:=I.pin p hp;refine⟨(hs.2 p.1 ?_).trans e,n,ne,nf,d⟩;intro q;rw[q,hoc] at e;have q':oc=p.2:=Option.some.inj e;exact d w' (by rw[<-q'];exact hocd)
theorem zdP {M:Model}{A:Around}{E:Value->Shared->Prop}{i:Nat}{x:Str}{v:V}{u:Value}{Q:Unit->Shared->Prop}(I:Inv X pins σ H s) (hN:X.N.Nodup) (hi:X.N[i]?=some x) (hx:Loc X.env.scope x) (r:RelV v u)
  (h:∀s',Inv X pins (σ.set i (some v)) H s'->Q () s') (hf:X.fn x=true\/X.env.scope.names.lookup x=some .local:=by first|exact .inl rfl|exact .inr rfl|assumption):wpAny M A (storeName X.env x u) Q E s :=
 zjd I hN hi hx r (fun s' I' _=>h s' I') hf
theorem Inv.call' {s':Shared}{ch:List Addr}(I:Inv X pins σ H s) (ho:s'.os=s.os) (u:Un (frs X.stack) ch H H' s.heap s'.heap) (hok:HOk X.prog X.w H' s'.heap) (hg:AllBare s'.gens)
  (hch:∀b∈ch,(b∈X.ex\/X.s_0.heap.objs.size<=b)/\b≠X.env.locals/\(∀x c,X.env.cells.lookup x=some c->c≠b)/\∀p∈X.pn++pins,p.1≠b):Inv X pins σ H' s':=by
 obtain⟨h',g',d',t',o'⟩:=s';have e:o'=s.os:=ho;subst e;exact I.call (g':=g') (t':=t') (d':=d') u hok hg hch
end
abbrev XK:=Addr×Bool->Option Addr->Hp->Prop
abbrev St:=List (Option V)
abbrev VK:=V->Hp->Prop
abbrev TE:=St->Hp->VK->Prop
abbrev TT:=St->Hp->(Bool->Hp->Prop)->Prop
abbrev TA:=St->Hp->(List V->Hp->Prop)->Prop
structure zhI where
 nx:St->Hp->Prop
 rt:VK
 bk:St->Hp->Prop:=fun _ _=>False
 ct:St->Hp->Prop:=fun _ _=>False
abbrev TS:=zhI->St->Hp->Prop
def EP (X:Cx) (pins:List (Addr×Obj)) (σ:St) (Q:VK) (u:Value) (s':Shared):Prop:=∃v H',Inv X pins σ H' s'/\RelV v u/\Q v H'
def TP (X:Cx) (pins:List (Addr×Obj)) (σ:St) (Q:Bool->Hp->Prop) (b:Bool) (s':Shared):Prop:=∃H',Inv X pins σ H' s'/\Q b H'
def AP (X:Cx) (pins:List (Addr×Obj)) (σ:St) (Q:List V->Hp->Prop) (us:List Value) (s':Shared):Prop:=∃vs H',Inv X pins σ H' s'/\Vals vs us/\Q vs H'
def SP (X:Cx) (pins:List (Addr×Obj)) (D:zhI) (f:Flow) (s':Shared):Prop :=
 match f with
 |.next=>∃σ' H',Inv X pins σ' H' s'/\D.nx σ' H'
 |.brk=>∃σ' H',Inv X pins σ' H' s'/\D.bk σ' H'
 |.cont=>∃σ' H',Inv X pins σ' H' s'/\D.ct σ' H'
 |.ret u=>∃v σ' H',Inv X pins σ' H' s'/\RelV v u/\D.rt v H'
def PE (X:Cx) (e:Expr) (t:TE):Prop :=
 ∀(pins:List (Addr×Obj)) (s:Shared) (σ:St) (H:Hp) (Q:VK),Inv X pins σ H s->t σ H Q->wpAny (model X.prog X.w) X.A (eval e X.env) (EP X pins σ Q) X.xe s
def PT (X:Cx) (e:Expr) (t:TT):Prop :=
 ∀(pins:List (Addr×Obj)) (s:Shared) (σ:St) (H:Hp) (Q:Bool->Hp->Prop),Inv X pins σ H s->t σ H Q->wpAny (model X.prog X.w) X.A (isTrue e X.env (eval e X.env)) (TP X pins σ Q) X.xe s
def PW (X:Cx) (e:Expr) (t:TT):Prop :=
 ∀(whole:Sem Value) (pins:List (Addr×Obj)) (s:Shared) (σ:St) (H:Hp) (Q:Bool->Hp->Prop),Inv X pins σ H s->t σ H Q->wpAny (model X.prog X.w) X.A (isTrue e X.env whole) (TP X pins σ Q) X.xe s
theorem PW.pt {X:Cx}{e:Expr}{t:TT}(h:PW X e t):PT X e t:=h _
def PA (X:Cx) (es:List Expr) (t:TA):Prop :=
 ∀(pos:Pos) (pins:List (Addr×Obj)) (s:Shared) (σ:St) (H:Hp) (Q:List V->Hp->Prop),Inv X pins σ H s->t σ H Q->wpAny (model X.prog X.w) X.A (spliced (backTo pos (starEach es X.env))) (AP X pins σ Q) X.xe s
def PS (X:Cx) (st:Stmt) (t:TS):Prop :=
 ∀(pins:List (Addr×Obj)) (s:Shared) (σ:St) (H:Hp) (D:zhI),Inv X pins σ H s->t D σ H->wpAny (model X.prog X.w) X.A (exec st X.env) (SP X pins D) X.xe s
def PSs (X:Cx) (st:List Stmt) (t:TS):Prop :=
 ∀(pins:List (Addr×Obj)) (s:Shared) (σ:St) (H:Hp) (D:zhI),Inv X pins σ H s->t D σ H->wpAny (model X.prog X.w) X.A (execs st X.env) (SP X pins D) X.xe s
theorem thn {α:Type}{t:Sem α}{Q Q':α->Shared->Prop}{M:Model}{A:Around}{E:Value->Shared->Prop}{s:Shared}(h:wpAny M A t Q E s) (hQ:∀a s,Q a s->Q' a s):wpAny M A t Q' E s:=wpAny_mono h hQ fun _ _ x=>x
end L2
namespace L2
open PySem PySem.Spec PyProof.Rows
section
variable {X:Cx}
def zbY (i:Nat):TE:=fun σ H Q=>∃v,σ[i]?=some (some v)/\Q v H
def tC (v:V):TE:=fun _ H Q=>Q v H
theorem zqi {i:Nat}{x:Str}{pos:Pos}(hN:X.N[i]?=some x) (hv:Vis X.env.scope x) (hd:(x == ("__debug__" : Str))=false:=by decide) (hcd:(x == ("__classdict__" : Str))=false:=by decide):PE X (.Name x pos) (zbY i):=by
 intro pins s σ H Q I h;obtain⟨v,e,h⟩:=h;obtain⟨m,hn,hl⟩:=I.loc;obtain⟨u,r,l⟩:=hl i x v hN e hv;have fin:EP X pins σ Q u s:=⟨v,H,I,r,h⟩
 rcases l with⟨hk,hm⟩|⟨hk,c,hc,hcell⟩
 ·exact wpAny_Name (wpAny_loadName_local I.ok.kind hk hn hm fin) hd
 ·rcases hk with hk|hk
  ·exact wpAny_Name (wpAny_loadName_cell I.ok.kind hk hc hcell fin) hd
  ·exact wpAny_Name (wpAny_loadName_free I.ok.kind hk hc hcell fin hcd) hd
theorem zq {i j pos}:PE X (.Constant (.int i) j pos) (tC (.int i)):=fun _ _ _ H _ I h=>wpAny_Constant_int ⟨.int i,H,I.tok _,⟨_,rfl⟩,h⟩
theorem znS {b j pos}:PE X (.Constant (.bool b) j pos) (tC (.bl b)):=fun _ _ _ H _ I h=>Constant_bool ⟨.bl b,H,I,rfl,h⟩
def Gl (X:Cx) (x:Str):Prop:=X.env.kindOf x=some .globalImplicit
theorem zbI {E:Value->Shared->Prop}{pins:List (Addr×Obj)}{s:Shared}{σ:St}{H:Hp}{x:Str}{u:Value}{pos:Pos}{Q:Value->Shared->Prop}(I:Inv X pins σ H s) (hg:Gl X x) (hm:X.mg x=some u) (h:Q u s)
  (hd:(x == ("__debug__" : Str))=false:=by decide):wpAny (model X.prog X.w) X.A (eval (.Name x pos) X.env) Q E s :=
 Calls.Name_function_global I.ok.kind hg (Calls.loadGlobal_global (by rw[I.ok.glob];exact I.mod.glob.keeps I.bk) hm h) hd
theorem zd2 {E:Value->Shared->Prop}{pins:List (Addr×Obj)}{s:Shared}{σ:St}{H:Hp}{x:Str}{u:Value}{pos:Pos}{Q:Value->Shared->Prop}(I:Inv X pins σ H s) (hg:Gl X x) (hm:X.mg x=none) (hv:bootBuiltins x=some u) (h:Q u s)
  (hn:x ≠ "__name__" := by decide) (hd:(x == ("__debug__" : Str))=false:=by decide):wpAny (model X.prog X.w) X.A (eval (.Name x pos) X.env) Q E s:=by
 obtain⟨mb,h1,h2⟩:=I.mod.blt;exact Calls.Name_function_global I.ok.kind hg (Calls.loadGlobal_builtin (by rw[I.ok.glob];exact I.mod.glob.keeps I.bk) hm (by rw[I.ok.blt];exact h1.keeps I.bk) ((h2 x hn).trans hv) h) hd
theorem zr {x:Str}{v:V}{u:Value}{pos:Pos}(hg:Gl X x) (hm:X.mg x=some u) (r:RelV v u) (hd:(x == ("__debug__" : Str))=false:=by decide):PE X (.Name x pos) (tC v) :=
 fun _ _ _ H _ I h=>zbI I hg hm ⟨v,H,I,r,h⟩ hd
variable {a b:Expr}{ta tb:TE}{pos:Pos}
def tB (t:TE):TT:=fun σ H Q=>t σ H fun x H1=>∃c,x=.bl c/\Q c H1
theorem zap {e:Expr}{t:TE}(h:PE X e t) (he:∀whole,isTrue e X.env whole=(do let v <-whole;standAt e.pos;holding [v] (truthy v)):=by intro _;rfl):PT X e (tB t):=by
 intro pins s σ H Q I hw;refine isTrue_plain (thn (h pins s σ H _ I hw) fun v s1 ⟨x,H1,I1,r1,q1⟩=>?_) (he _);obtain⟨d,rfl,q⟩:=q1;cases r1;exact wpAny_truthy_bool ⟨H1,I1,q⟩
variable {tA tB':TT}{rest:List Expr}
def zqd (t u:TT):TT:=fun σ H Q=>t σ H fun c H1=>if c=true then u σ H1 Q else Q false H1
def tOr (t u:TT):TT:=fun σ H Q=>t σ H fun c H1=>if c=true then Q true H1 else u σ H1 Q
def zrK (t:TT):TT:=fun σ H Q=>t σ H fun c H1=>Q (!c) H1
theorem zg6 (ha:PT X a tA):PW X (.BoolOp .And [a] pos) tA:=by
 intro wh pins s σ H Q I h;refine isTrue_and (thn (ha pins s σ H Q I h) fun c s1 e=>?_);cases c with
 |true=>exact isTrue_and_nil e
 |false=>exact e
theorem zfQ (ha:PT X a tA):PW X (.BoolOp .Or [a] pos) tA:=by
 intro wh pins s σ H Q I h;refine isTrue_or (thn (ha pins s σ H Q I h) fun c s1 e=>?_);cases c with
 |false=>exact isTrue_or_nil e
 |true=>exact e
theorem zj2 (ha:PT X a tA) (hb:PW X (.BoolOp .And (b::rest) pos) tB'):PW X (.BoolOp .And (a::b::rest) pos) (zqd tA tB'):=by
 intro wh pins s σ H Q I h;refine isTrue_and (thn (ha pins s σ H _ I h) fun c s1 ⟨H1,I1,q1⟩=>?_);cases c with
 |true=>exact hb wh pins s1 σ H1 Q I1 q1
 |false=>exact⟨H1,I1,q1⟩
theorem ziG (ha:PT X a tA) (hb:PW X (.BoolOp .Or (b::rest) pos) tB'):PW X (.BoolOp .Or (a::b::rest) pos) (tOr tA tB'):=by
 intro wh pins s σ H Q I h;refine isTrue_or (thn (ha pins s σ H _ I h) fun c s1 ⟨H1,I1,q1⟩=>?_);cases c with
 |true=>exact⟨H1,I1,q1⟩
 |false=>exact hb wh pins s1 σ H1 Q I1 q1
theorem zeW (ha:PT X a tA):PT X (.UnaryOp .Not a pos) (zrK tA):=by
 intro pins s σ H Q I h;exact isTrue_not (ha pins s σ H (fun c H1=>Q (!c) H1) I h)
def znH (ta tb:TE):TE:=fun σ H Q=>ta σ H fun x H1=>∃c,x=.bl c/\if c=true then tb σ H1 Q else Q (.bl false) H1
def zqg (ta tb:TE):TE:=fun σ H Q=>ta σ H fun x H1=>∃c,x=.bl c/\if c=true then Q (.bl true) H1 else tb σ H1 Q
def zq5 (ta:TE):TE:=fun σ H Q=>ta σ H fun x H1=>∃c,x=.bl c/\Q (.bl (!c)) H1
theorem zeQ {op}{t:TE}(h:PE X a t):PE X (.BoolOp op [a] pos) t:=fun pins s σ H Q I hw=>BoolOp_one (h pins s σ H Q I hw)
theorem zhx (ha:PE X a ta) (hb:PE X (.BoolOp .And (b::rest) pos) tb):PE X (.BoolOp .And (a::b::rest) pos) (znH ta tb):=by
 intro pins s σ H Q I h;refine BoolOp_and (thn (ha pins s σ H _ I h) fun v s1 ⟨x,H1,I1,r1,q1⟩=>?_);obtain⟨c,rfl,q1⟩:=q1;cases r1;refine wpAny_truthy_bool ?_;cases c with
 |true=>exact hb pins s1 σ H1 Q I1 q1
 |false=>exact⟨.bl false,H1,I1,rfl,q1⟩
theorem zmk (ha:PE X a ta) (hb:PE X (.BoolOp .Or (b::rest) pos) tb):PE X (.BoolOp .Or (a::b::rest) pos) (zqg ta tb):=by
 intro pins s σ H Q I h;refine BoolOp_or (thn (ha pins s σ H _ I h) fun v s1 ⟨x,H1,I1,r1,q1⟩=>?_);obtain⟨c,rfl,q1⟩:=q1;cases r1;refine wpAny_truthy_bool ?_;cases c with
 |false=>exact hb pins s1 σ H1 Q I1 q1
 |true=>exact⟨.bl true,H1,I1,rfl,q1⟩
theorem zlE (ha:PE X a ta):PE X (.UnaryOp .Not a pos) (zq5 ta):=by
 intro pins s σ H Q I h;refine UnaryOp_ (thn (ha pins s σ H _ I h) fun v s1 ⟨x,H1,I1,r1,q1⟩=>?_);obtain⟨c,rfl,q1⟩:=q1;cases r1;exact not_of (wpAny_truthy_bool ⟨.bl (!c),H1,I1,rfl,q1⟩)
def tIf (t:TT) (ta tb:TE):TE:=fun σ H Q=>t σ H fun c H1=>if c=true then ta σ H1 Q else tb σ H1 Q
theorem zhh {c:Expr}(hc:PT X c tA) (ha:PE X a ta) (hb:PE X b tb):PE X (.IfExp c a b pos) (tIf tA ta tb):=by
 intro pins s σ H Q I h;refine wpAny_IfExp (thn (hc pins s σ H _ I h) fun d s1 ⟨H1,I1,q1⟩=>?_);cases d with
 |true=>exact ha pins s1 σ H1 Q I1 q1
 |false=>exact hb pins s1 σ H1 Q I1 q1
end
end L2
namespace L2
open PySem PySem.Spec PyProof.Rows
def SqL (K:PySem.W.Frag) (H:Hp) (a:Addr) (xs:List V):Prop :=
 Rd H a (.lst xs) \/
  ∃(o:Obj) (its:Array Value) (n:Nat),K.lookup a=some o/\o.cls=.type "list" /\ o.dict=none/\o.data=.seq its n/\its.size<=sizeLine/\Vals xs its.toList
def SqT (K:PySem.W.Frag) (H:Hp) (a:Addr) (xs:List V):Prop :=
 Rd H a (.tup xs) \/
  ∃(o:Obj) (its:Array Value) (n:Nat),K.lookup a=some o/\o.cls=.type "tuple" /\ o.data=.seq its n/\its.size<=sizeLine/\Vals xs its.toList
def zri:Value->Option V
 |.none=>some .non
 |.bool b=>some (.bl b)
 |.int i _=>some (.int i)
 |.str x _=>some (.str x)
 |.bytes b _=>some (.byt b)
 |.float b _=>some (.flt b)
 |.ref a=>some (.ref a)
 |.type n=>some (.ty n)
 |_=>none
theorem RelV.abs {x:V}{u:Value}(r:RelV x u):zri u=some x:=by
 cases x with
 |non=>cases r;rfl
 |bl _=>cases r;rfl
 |int _=>obtain⟨t,rfl⟩:=r;rfl
 |str _=>obtain⟨t,rfl⟩:=r;rfl
 |byt _=>obtain⟨t,rfl⟩:=r;rfl
 |flt _=>obtain⟨t,rfl⟩:=r;rfl
 |ref _=>cases r;rfl
 |ty _=>cases r;rfl
theorem RelV.inj {x y:V}{u:Value}(r:RelV x u) (q:RelV y u):x=y:=Option.some.inj (r.abs.symm.trans q.abs)
theorem Vals.inj:∀{xs ys:List V}{us:List Value},Vals xs us->Vals ys us->xs=ys
 |_,_,_,.nil,.nil=>rfl
 |_,_,_,.cons r t,.cons r' t'=>by rw[r.inj r',Vals.inj t t']
section
variable {X:Cx}{pins:List (Addr×Obj)}{σ:St}{H:Hp}{s:Shared}{a:Addr}{xs ys:List V}
theorem SqL.of {K:PySem.W.Frag}(h:H a=some (.lst xs)):SqL K H a xs:=.inl (.inl h)
theorem Inv.list (I:Inv X pins σ H s) (h:SqL X.K H a xs):∃its:List Value,Vals xs its/\PlainL s.heap a its.toArray/\xs.length<=sizeLine:=by
 rcases h with h|⟨o,its,n,hk,hc,hd,hs,hz,r⟩
 ·obtain⟨z,its,n,r,e⟩:=h.ok I.hok;exact⟨its,r,⟨_,n,e,rfl,rfl,rfl⟩,z⟩
 ·refine⟨its.toList,r,⟨o,n,I.kIn a o hk,hc,hd,by simpa using hs⟩,?_⟩;have e:=r.length;simp only[Array.length_toList] at e;omega
theorem Inv.tuple (I:Inv X pins σ H s) (h:SqT X.K H a xs):∃its:List Value,Vals xs its/\IsTup s.heap a its.toArray/\xs.length<=sizeLine:=by
 rcases h with h|⟨o,its,n,hk,hc,hs,hz,r⟩
 ·obtain⟨z,its,r,p⟩:=h.ok I.hok;exact⟨its,r,p,z⟩
 ·refine⟨its.toList,r,⟨o,I.kIn a o hk,hc,n,by simpa using hs⟩,?_⟩;have e:=r.length;simp only[Array.length_toList] at e;omega
theorem Inv.list_inj (I:Inv X pins σ H s) (h:SqL X.K H a xs) (h':SqL X.K H a ys):xs=ys:=by
 obtain⟨its,r,⟨o,n,e,_,_,d⟩,_⟩:=I.list h;obtain⟨its',r',⟨o',n',e',_,_,d'⟩,_⟩:=I.list h';rw[e] at e';cases e';rw[d] at d';injection d' with d1 _;have:its=its':=by simpa using congrArg Array.toList d1
 subst this;exact r.inj r'
theorem Inv.tuple_inj (I:Inv X pins σ H s) (h:SqT X.K H a xs) (h':SqT X.K H a ys):xs=ys:=by
 obtain⟨its,r,⟨o,e,_,n,d⟩,_⟩:=I.tuple h;obtain⟨its',r',⟨o',e',_,n',d'⟩,_⟩:=I.tuple h';rw[e] at e';cases e';rw[d] at d';injection d' with d1 _;have:its=its':=by simpa using congrArg Array.toList d1
 subst this;exact r.inj r'
end
abbrev Cx.wish (X:Cx) (E:Value->Shared->Prop):Cx:={ X with xe:=E }
theorem Cx.Ok.wish {X:Cx}(ok:X.Ok) (E:Value->Shared->Prop):(X.wish E).Ok :=
 ⟨ok.mod,ok.kind,ok.glob,ok.blt,ok.above,ok.inj,ok.has,ok.cab,ok.hd,ok.frames,ok.stk,ok.exf,ok.bs,ok.bsz,ok.noex,ok.exfs,ok.funs,ok.frf⟩
theorem Cx.Ok.unwish {X:Cx}{E:Value->Shared->Prop}(ok:(X.wish E).Ok):X.Ok :=
 ⟨ok.mod,ok.kind,ok.glob,ok.blt,ok.above,ok.inj,ok.has,ok.cab,ok.hd,ok.frames,ok.stk,ok.exf,ok.bs,ok.bsz,ok.noex,ok.exfs,ok.funs,ok.frf⟩
section
variable {X:Cx}{pins:List (Addr×Obj)}{σ:St}{H:Hp}{s:Shared}{E:Value->Shared->Prop}
theorem Inv.wish (I:Inv X pins σ H s) (E:Value->Shared->Prop):Inv (X.wish E) pins σ H s:=⟨I.ok.wish E,I.os,I.bare,I.base,I.loc,I.cell,I.free,I.freeC,I.pin,I.hok,I.len⟩
theorem Inv.unwish (I:Inv (X.wish E) pins σ H s):Inv X pins σ H s:=⟨I.ok.unwish,I.os,I.bare,I.base,I.loc,I.cell,I.free,I.freeC,I.pin,I.hok,I.len⟩
end
section
variable {X:Cx}{st:Stmt}{rest:List Stmt}{t u:TS}{e:Expr}{te:TE}{pos:Pos}
def zc4:TS:=fun D σ H=>D.nx σ H
def zgR (t u:TS):TS:=fun D σ H=>t { D with nx:=u D } σ H
theorem zO:PSs X [] zc4:=fun _ _ σ H _ I h=>wpAny_execs_nil ⟨σ,H,I,h⟩
theorem zh (h1:PS X st t) (h2:PSs X rest u):PSs X (st::rest) (zgR t u):=by
 intro pins s σ H D I h;refine wpAny_execs_cons (thn (h1 pins s σ H { D with nx:=u D } I h) fun f s1 q=>?_);cases f with
 |next =>
  obtain⟨σ',H',I',q⟩:=q;exact h2 pins s1 σ' H' D I' q
 |ret v=>exact q
 |brk=>exact q
 |cont=>exact q
theorem zi (h1:PS X st t):PSs X [st] t:=by
 intro pins s σ H D I h;refine wpAny_execs_cons (thn (h1 pins s σ H D I h) fun f s1 q=>?_);cases f with
 |next=>exact wpAny_execs_nil q
 |ret v=>exact q
 |brk=>exact q
 |cont=>exact q
theorem Inv.quiet {pins:List (Addr×Obj)}{σ:St}{H:Hp}{s:Shared}(I:Inv X pins σ H s):interactive X.env=false:=by simp[interactive,I.ok.kind]
def zq6 (te:TE):TS:=fun D σ H=>te σ H fun _ H1=>D.nx σ H1
theorem yr (he:PE X e te) (hs:swapsWith e none pos.line X.env=pure false:=by rfl):PS X (.Expr e pos) (zq6 te):=by
 intro pins s σ H D I h;exact wpAny_Expr_any (thn (he pins s σ H _ I h) fun v s1 ⟨x,H1,I1,r1,q1⟩=>⟨σ,H1,I1,q1⟩) I.quiet hs
def zqo (te:TE):TS:=fun D σ H=>te σ H D.rt
theorem zL (he:PE X e te):PS X (.Return (some e) pos) (zqo te):=by
 intro pins s σ H D I h;exact wpAny_Return_some (thn (he pins s σ H _ I h) fun v s1 ⟨x,H1,I1,r1,q1⟩=>⟨x,σ,H1,I1,r1,q1⟩)
def ziE (c:TT) (t u:TS):TS:=fun D σ H=>c σ H fun b H1=>if b=true then t D σ H1 else u D σ H1
theorem yf {c:Expr}{a b:List Stmt}{tc:TT}(hc:PT X c tc) (ha:PSs X a t) (hb:PSs X b u):PS X (.If c a b pos) (ziE tc t u):=by
 intro pins s σ H D I h;refine wpAny_If (thn (hc pins s σ H _ I h) fun d s1 ⟨H1,I1,q1⟩=>?_);cases d with
 |true=>exact ha pins s1 σ H1 D I1 q1
 |false=>exact hb pins s1 σ H1 D I1 q1
end
abbrev TG:=V->St->Hp->(St->Hp->Prop)->Prop
abbrev TGs:=List V->St->Hp->(St->Hp->Prop)->Prop
def PG (X:Cx) (target:Expr) (t:TG):Prop :=
 ∀(pins:List (Addr×Obj)) (s:Shared) (σ:St) (H:Hp) (v:V) (u:Value) (Q:St->Hp->Prop),Inv X pins σ H s->RelV v u->t v σ H Q ->
  wpAny (model X.prog X.w) X.A (assign target X.env u) (fun _ s'=>∃σ' H',Inv X pins σ' H' s'/\Q σ' H') X.xe s
def PGs (X:Cx) (ts:List Expr) (t:TGs):Prop :=
 ∀(pins:List (Addr×Obj)) (s:Shared) (σ:St) (H:Hp) (vs:List V) (us:List Value) (Q:St->Hp->Prop),Inv X pins σ H s->Vals vs us->t vs σ H Q ->
  wpAny (model X.prog X.w) X.A (assignInOrder ((assignEach ts X.env).map (·.2)) us) (fun _ s'=>∃σ' H',Inv X pins σ' H' s'/\Q σ' H') X.xe s
abbrev TIp:=V->V->Hp->VK->Prop
def PIp (X:Cx) (op:Operator) (t:TIp):Prop :=
 ∀(pins:List (Addr×Obj)) (s:Shared) (σ:St) (H:Hp) (x y:V) (v u:Value) (Q:VK),Inv X pins σ H s->RelV x v->RelV y u->t x y H Q ->
  wpAny (model X.prog X.w) X.A (inplaceOp op v u) (EP X pins σ Q) X.xe s
section
variable {X:Cx}{pos:Pos}
def zfL (i:Nat):TG:=fun v σ H Q=>Q (σ.set i (some v)) H
theorem zY {i:Nat}{x:Str}(hN:X.N.Nodup) (hi:X.N[i]?=some x) (hx:Loc X.env.scope x) (hf:X.fn x=true\/X.env.scope.names.lookup x=some .local:=by first|exact .inl rfl|exact .inr rfl|assumption):PG X (.Name x pos) (zfL i):=by
 intro pins s σ H v u Q I r h;exact wpAny_assign_Name (zdP I hN hi hx r (fun s' I'=>⟨_,H,I',h⟩) hf)
def zrl:TGs:=fun vs σ H Q=>vs=[]/\Q σ H
def zqX (t:TG) (u:TGs):TGs:=fun vs σ H Q=>∃v r,vs=v::r/\t v σ H fun σ' H'=>u r σ' H' Q
theorem zmy:PGs X [] zrl:=by
 intro pins s σ H vs us Q I r h;obtain⟨e,h⟩:=h;subst e;cases r;exact assignInOrder_nil ⟨σ,H,I,h⟩
theorem zfC {e:Expr}{es:List Expr}{t:TG}{u:TGs}(h1:PG X e t) (h2:PGs X es u)
  (hs:(assignEach (e::es) X.env).map (·.2)=assign e X.env::(assignEach es X.env).map (·.2):=by rfl):PGs X (e::es) (zqX t u):=by
 intro pins s σ H vs us Q I r h;obtain⟨v,vr,e1,h⟩:=h;subst e1;cases r with
 |cons r rr =>
  rw[hs];refine assignInOrder_cons (thn (h1 pins s σ H _ _ _ I r h) fun _ s1 ⟨σ1,H1,I1,q1⟩=>?_);exact h2 pins s1 σ1 H1 _ _ Q I1 rr q1
def zry (K:PySem.W.Frag) (n:Nat) (t:TGs):TG:=fun v σ H Q=>∃a xs,v=.ref a/\SqT K H a xs/\xs.length=n/\t xs σ H Q
theorem zod {es:List Expr}{k:Nat}{t:TGs}{n:Nat}(hc:X.calm=true) (h:PGs X es t)
  (hn:(assignEach es X.env).length=n:=by rfl) (hst:(assignEach es X.env).findIdx? (·.1)=none:=by rfl):PG X (.Tuple es k pos) (zry X.K n t):=by
 intro pins s σ H v u Q I r hw;obtain⟨a,xs,e1,hq,hl,hw⟩:=hw;subst e1;cases r;obtain⟨its,rv,ht,hz⟩:=I.tuple hq;refine assign_Tuple_tuple (I.ok.hd hc) ht (by simp[hn,<-hl,rv.length]) hst fun h' hx=>?_;have I1:Inv X pins σ H { s with heap:=h' }:=I.kept (t':=s.toks) fun b o e=>hx b o (Nat.ne_of_lt (Heap.lt_size e)) e;exact h pins _ σ H xs _ Q I1 (by simpa using rv) hw
def zqS (te:TE) (g:TG):TS:=fun D σ H=>te σ H fun x H1=>g x σ H1 D.nx
theorem z6 {i:Nat}{x:Str}{e:Expr}{te:TE}{pos':Pos}(hN:X.N.Nodup) (hi:X.N[i]?=some x) (hx:Loc X.env.scope x) (he:PE X e te) (hs:swapsWith e (some (.Name x pos')) pos.line X.env=pure false:=by rfl) (hf:X.fn x=true\/X.env.scope.names.lookup x=some .local:=by first|exact .inl rfl|exact .inr rfl|assumption) :
  PS X (.Assign [.Name x pos'] e pos) (zqS te (zfL i)):=by
 intro pins s σ H D I h;refine wpAny_Assign_Name (thn (he pins s σ H _ I h) fun v s1 ⟨y,H1,I1,r1,q1⟩=>?_) hs;exact zdP I1 hN hi hx r1 (fun s2 I2=>⟨_,H1,I2,q1⟩) hf
def zrr (i:Nat) (te:TE) (ti:TIp):TS:=fun D σ H=>∃x,σ[i]?=some (some x)/\te σ H fun y H1=>ti x y H1 fun z H2=>D.nx (σ.set i (some z)) H2
theorem zqb {i:Nat}{x:Str}{e:Expr}{te:TE}{op:Operator}{ti:TIp}{pos':Pos}(hN:X.N.Nodup) (hi:X.N[i]?=some x) (hx:Loc X.env.scope x) (he:PE X e te) (ho:PIp X op ti) (hf:X.fn x=true\/X.env.scope.names.lookup x=some .local:=by first|exact .inl rfl|exact .inr rfl|assumption) :
  PS X (.AugAssign (.Name x pos') op e pos) (zrr i te ti):=by
 intro pins s σ H D I h;obtain⟨v,e1,h⟩:=h;obtain⟨m,hn,hl⟩:=I.loc;have vis:Vis X.env.scope x:=by rcases hx with k|k;exact .inl k;exact .inr (.inl k)
 obtain⟨u,r,l⟩:=hl i x v hi e1 vis;refine wpAny_AugAssign_Name ?_;have go:wpAny (model X.prog X.w) X.A (eval e X.env) (fun w s₂=>wpAny (model X.prog X.w) X.A (inplaceOp op u w) (fun r s₃=>wpAny (model X.prog X.w) X.A (storeName X.env x r) (fun _=>SP X pins D .next) X.xe s₃) X.xe s₂) X.xe s:=by
  refine thn (he pins s σ H _ I h) fun w s1 ⟨y,H1,I1,r1,q1⟩=>?_;refine thn (ho pins s1 σ H1 v y u w _ I1 r r1 q1) fun z s2 ⟨zv,H2,I2,r2,q2⟩=>?_;exact zdP I2 hN hi hx r2 (fun s3 I3=>⟨_,H2,I3,q2⟩) hf
 rcases l with⟨hk,hm⟩|⟨hk,c,hc,hcell⟩
 ·exact wpAny_loadName_local I.ok.kind hk hn hm go
 ·rcases hk with hk|hk
  ·exact wpAny_loadName_cell I.ok.kind hk hc hcell go
  ·rcases hx with k|k
   ·have:X.env.scope.names.lookup x=some .free:=hk;rw[k] at this;cases this
   ·have:X.env.scope.names.lookup x=some .free:=hk;rw[k] at this;cases this
def ipI (f:Int->Int->Int):TIp:=fun x y H Q=>∃i j,x=.int i/\y=.int j/\Q (.int (f i j)) H
theorem zp7:PIp X .Add (ipI fun i j=>i+j):=by
 intro pins s σ H x y v u Q I r1 r2 h;obtain⟨i,j,e1,e2,q⟩:=h;subst e1;subst e2;obtain⟨t,rfl⟩:=r1;obtain⟨t',rfl⟩:=r2;exact iadd_int ⟨.int _,H,I.tok _,⟨_,rfl⟩,q⟩
end
section
variable {X:Cx}{pos:Pos}
end
structure It where
 go:Nat->Hp->Prop
 yld:Nat->Hp->V->Hp->Prop
 stop:Nat->Hp->Prop
def zgV (X:Cx) (pins:List (Addr×Obj)) (H:Hp) (b:Addr):Prop :=
 H b=none/\b≠X.env.locals/\b∉X.fs/\(b∈X.ex\/X.s_0.heap.objs.size<=b)/\(∀x c,X.env.cells.lookup x=some c->c≠b)/\∀p∈X.pn++pins,p.1≠b
theorem Inv.fpOk {X:Cx}{pins:List (Addr×Obj)}{σ:St}{H H':Hp}{s:Shared}{b:Addr}(I:Inv X pins σ H s) (hb:s.heap.objs.size<=b) (hn:H' b=none):zgV X pins H' b:=by
 refine⟨hn,Nat.ne_of_gt (Nat.lt_of_lt_of_le I.lt hb),I.nofs hb,.inr (Nat.le_trans I.sz hb),fun x c e z=>?_,fun p hp z=>?_⟩
 ·obtain⟨v,q⟩:=I.cell x c e;exact absurd (Nat.lt_of_lt_of_le q.lt (by rw[z];exact hb)) (Nat.lt_irrefl _)
 ·exact absurd (Nat.lt_of_lt_of_le (Heap.lt_size (I.pin p hp).1) (by rw[z];exact hb)) (Nat.lt_irrefl _)
structure zkr (P:Program) (w:World) (K:PySem.W.Frag) (tg:Expr) (J:It) (fp:List Addr) (it:Addr) (tn:Nat->Heap->Prop):Prop where
 mem:it∈fp
 obj:∀i h,tn i h->∀b∈fp,∃o,h.get? b=some o/\∀v,o.data≠.cell v
 keep:∀i h h',tn i h->(∀b∈fp,∀o,h.get? b=some o->h'.get? b=some o)->tn i h'
 item:∀(X:Cx),X.prog=P->X.w=w->X.K=K->X.calm=true->∀(i:Nat) (pins:List (Addr×Obj)) (s:Shared) (σ:St) (H:Hp) (E:Value->Shared->Prop),Inv X pins σ H s->(∀b∈fp,zgV X pins H b)->tn i s.heap->J.go i H ->
  wpAny (model P w) X.A (pyNext (.ref it)) (fun r s1=>∃u,r=some u /\
   wpAny (model P w) X.A (letOwnedTupleGo tg (.ref it) u) (fun _ s2=>∃x H',Inv X pins σ H' s2/\RelV x u/\J.yld i H x H'/\tn (i+1) s2.heap/\∀b∈fp,H' b=none) E s1) E s
 done:∀(X:Cx),X.prog=P->X.w=w->X.K=K->X.calm=true->∀(i:Nat) (pins:List (Addr×Obj)) (s:Shared) (σ:St) (H:Hp) (E:Value->Shared->Prop),Inv X pins σ H s->(∀b∈fp,zgV X pins H b)->tn i s.heap->J.stop i H ->
  wpAny (model P w) X.A (pyNext (.ref it)) (fun r s1=>r=none/\Inv X pins σ H s1) E s
 self:∀(A:Around) (i:Nat) (s:Shared) (Q:Value->Shared->Prop) (E:Value->Shared->Prop),tn i s.heap->Q (.ref it) s->wpAny (model P w) A (pyIter (.ref it)) Q E s
abbrev TI:=St->Hp->(It->Hp->Prop)->Prop
def PIE (X:Cx) (pins:List (Addr×Obj)) (σ:St) (tg:Expr) (R:It->Hp->Prop) (itv:Value) (s2:Shared):Prop :=
 ∃(it:Addr) (fp:List Addr) (tn:Nat->Heap->Prop) (J:It) (H':Hp),itv=.ref it/\Inv X pins σ H' s2/\zkr X.prog X.w X.K tg J fp it tn/\tn 0 s2.heap/\(∀b∈fp,zgV X pins H' b)/\R J H'
def PI (X:Cx) (tg iter:Expr) (wi:TI):Prop :=
 ∀(pins:List (Addr×Obj)) (s:Shared) (σ:St) (H:Hp) (R:It->Hp->Prop),Inv X pins σ H s->wi σ H R ->
  wpAny (model X.prog X.w) X.A (eval iter X.env) (fun v s1=>wpAny (model X.prog X.w) X.A (pyIter v) (PIE X pins σ tg R) X.xe s1) X.xe s
theorem zml {M:Model}{A:Around}{E:Value->Shared->Prop}{s:Shared}{tg:Expr}{it:Addr}{u:Value}{o:Obj}{n:String}{vs:Array Value}{Q:Unit->Shared->Prop}(ho:s.heap.get? it=some o) (hc:o.cls=.type n) (hd:o.data=.fields vs)
  (hn:["enumerate", "zip", "dict_itemiterator", "dict_reverseitemiterator", "odict_iterator", "itertools.zip_longest", "itertools.pairwise"].contains n=false) (hQ:Q () s):wpAny M A (letOwnedTupleGo tg (.ref it) u) Q E s:=by
 unfold letOwnedTupleGo;cases tg <;> first
  |exact wpAny_pure hQ
  |(cases u <;> first
     |exact wpAny_pure hQ
     |(refine wpAny_bind (wpAny_load ho ?_)
       rw[hc,hd];show wpAny M A (if (["enumerate", "zip", "dict_itemiterator", "dict_reverseitemiterator", "odict_iterator", "itertools.zip_longest", "itertools.pairwise"].contains n&&vs[0]? == some (rawInt _))=true then _ else _) Q E s;rw[if_neg (by intro h;rw[hn,Bool.false_and] at h;cases h)];exact wpAny_pure hQ))
def Itl (K:PySem.W.Frag) (a:Addr):It :=
 ⟨fun i H=>∃xs x,SqL K H a xs/\xs[i]?=some x,fun i H x H'=>H'=H/\∀xs,SqL K H a xs->xs[i]?=some x,fun i H=>∃xs,SqL K H a xs/\xs.length<=i⟩
def Itt (K:PySem.W.Frag) (a:Addr):It :=
 ⟨fun i H=>∃xs x,SqT K H a xs/\xs[i]?=some x,fun i H x H'=>H'=H/\∀xs,SqT K H a xs->xs[i]?=some x,fun i H=>∃xs,SqT K H a xs/\xs.length<=i⟩
def Itr (lo:Int) (n:Nat):It:=⟨fun i _=>i<n,fun i H x H'=>H'=H/\x=.int (lo+i),fun i _=>n<=i⟩
theorem zne {P:Program}{w:World}{K:PySem.W.Frag}{tg:Expr}(a it:Addr):zkr P w K tg (Itl K a) [it] it (fun i h=>h.IsListIter it a i) where
 mem:=by simp
 obj:=fun i h st b hb=>by
  have e:b=it:=by simpa using hb
  subst e;obtain⟨o,e,c,d⟩:=st;exact⟨o,e,fun v z=>by rw[d] at z;cases z⟩
 keep:=fun i h h' st k=>st.at fun o e=>k it (by simp) o e
 item:=by
  intro X hP hw hK hc i pins s σ H E I hf st hg;subst hP hw hK;obtain⟨xs,x,hq,hx⟩:=hg;obtain⟨its,rv,p,hz⟩:=I.list hq;obtain⟨u,hu,ru⟩:=rv.get hx;obtain⟨f0,f1,f2,f3,f4,f5⟩:=hf it (by simp);refine wpAny_pyNext_list_item st p.isList (x:=u) (by simpa using hu) fun h' st' sb=>?_;have I1:Inv X pins σ H { s with heap:=h' }:=I.turned (t':=s.toks) (fun b o hb e=>(sb.2 b hb).trans e) f0 f1 f3 f4 f5;obtain⟨o,e,c,d⟩:=id st';exact⟨u,rfl,zml (s:={ s with heap:=h' }) e c d (by decide) ⟨x,H,I1,ru,⟨rfl,fun ys hy=>by rw[I.list_inj hy hq];exact hx⟩,st',fun b hb=>(hf b hb).1⟩⟩
 done:=by
  intro X hP hw hK hc i pins s σ H E I hf st hg;subst hP hw hK;obtain⟨xs,hq,hx⟩:=hg;obtain⟨its,rv,p,hz⟩:=I.list hq;obtain⟨f0,f1,f2,f3,f4,f5⟩:=hf it (by simp);have hl:=rv.length;exact wpAny_pyNext_list_end (I.ok.hd hc) st p.isList (by simp;omega) fun h' eb=>⟨rfl,I.turned (t':=s.toks) (fun b o hb e=>eb b o hb e) f0 f1 f3 f4 f5⟩
 self:=fun _ _ _ _ _ st h=>wpAny_pyIter_listiter st h
theorem zlx {P:Program}{w:World}{K:PySem.W.Frag}{tg:Expr}(a it:Addr):zkr P w K tg (Itt K a) [it] it (fun i h=>h.IsTupleIter it a i) where
 mem:=by simp
 obj:=fun i h st b hb=>by
  have e:b=it:=by simpa using hb
  subst e;obtain⟨o,e,c,d⟩:=st;exact⟨o,e,fun v z=>by rw[d] at z;cases z⟩
 keep:=fun i h h' st k=>st.at fun o e=>k it (by simp) o e
 item:=by
  intro X hP hw hK hc i pins s σ H E I hf st hg;subst hP hw hK;obtain⟨xs,x,hq,hx⟩:=hg;obtain⟨its,rv,p,hz⟩:=I.tuple hq;obtain⟨u,hu,ru⟩:=rv.get hx;obtain⟨f0,f1,f2,f3,f4,f5⟩:=hf it (by simp);refine wpAny_pyNext_tuple_item st (show s.heap.IsTuple a its.toArray from p) (x:=u) (by simpa using hu) fun h' st' sb=>?_;have I1:Inv X pins σ H { s with heap:=h' }:=I.turned (t':=s.toks) (fun b o hb e=>(sb.2 b hb).trans e) f0 f1 f3 f4 f5;obtain⟨o,e,c,d⟩:=id st';exact⟨u,rfl,zml (s:={ s with heap:=h' }) e c d (by decide) ⟨x,H,I1,ru,⟨rfl,fun ys hy=>by rw[I.tuple_inj hy hq];exact hx⟩,st',fun b hb=>(hf b hb).1⟩⟩
 done:=by
  intro X hP hw hK hc i pins s σ H E I hf st hg;subst hP hw hK;obtain⟨xs,hq,hx⟩:=hg;obtain⟨its,rv,p,hz⟩:=I.tuple hq;obtain⟨f0,f1,f2,f3,f4,f5⟩:=hf it (by simp);have hl:=rv.length;exact wpAny_pyNext_tuple_end (I.ok.hd hc) st (show s.heap.IsTuple a its.toArray from p) (by simp;omega) fun h' eb=>⟨rfl,I.turned (t':=s.toks) (fun b o hb e=>eb b o hb e) f0 f1 f3 f4 f5⟩
 self:=fun _ _ _ _ _ st h=>wpAny_pyIter_tupleiter st h
theorem zme {P:Program}{w:World}{K:PySem.W.Frag}{tg:Expr}(it:Addr) (lo:Int) (n:Nat):zkr P w K tg (Itr lo n) [it] it (fun i h=>IsRangeIter h it (lo+(i:Nat)*1) ((n:Int)-(i:Nat)) 1) where
 mem:=by simp
 obj:=fun i h st b hb=>by
  have e:b=it:=by simpa using hb
  subst e;exact⟨_,st,fun v z=>by
   have z':Data.fields _=Data.cell v:=z;cases z'⟩
 keep:=fun i h h' st k=>k it (by simp) _ st
 item:=by
  intro X hP hw hK hc i pins s σ H E I hf st hg;subst hP hw hK;obtain⟨f0,f1,f2,f3,f4,f5⟩:=hf it (by simp);have W:=Walks.range (prog:=X.prog) (w:=X.w) (I.ok.hd hc) it lo 1 n;refine W.item i s _ _ hg st fun v h' tk hv st' kk=>?_;obtain⟨t,rfl⟩:=hv;have I1:Inv X pins σ H { s with heap:=h',toks:=tk }:=I.turned (fun b o hb e=>kk b o (by simpa using hb) e) f0 f1 f3 f4 f5;refine⟨_,rfl,zml (s:={ s with heap:=h',toks:=tk }) (n := "range_iterator") st' rfl rfl (by decide) ⟨.int (lo+i),H,I1,⟨t,?_⟩,⟨rfl,rfl⟩,st',fun b hb=>(hf b hb).1⟩⟩;rw[Int.mul_one]
 done:=by
  intro X hP hw hK hc i pins s σ H E I hf st hg;subst hP hw hK;obtain⟨f0,f1,f2,f3,f4,f5⟩:=hf it (by simp);exact wpAny_pyNext_range_end (I.ok.hd hc) st (by have:n<=i:=hg;omega) fun h' eb=>⟨rfl,I.turned (t':=s.toks) (fun b o hb e=>eb b o hb e) f0 f1 f3 f4 f5⟩
 self:=fun _ _ _ _ _ st h=>wpAny_pyIter_rangeiter st h
end L2
namespace L2
open PySem PySem.Spec PyProof.Rows
section
variable {X:Cx}{tg:Expr}
def zq0 (K:PySem.W.Frag) (tl:TE):TI:=fun σ H R=>tl σ H fun x H1=>∃a,x=.ref a/\(∃xs,SqL K H1 a xs)/\R (Itl K a) H1
def zrG (K:PySem.W.Frag) (tl:TE):TI:=fun σ H R=>tl σ H fun x H1=>∃a,x=.ref a/\(∃xs,SqT K H1 a xs)/\R (Itt K a) H1
theorem yC {l:Expr}{tl:TE}(hl:PE X l tl):PI X tg l (zq0 X.K tl):=by
 intro pins s σ H R I h;refine thn (hl pins s σ H _ I h) fun v s1 ⟨x,H1,I1,r1,q1⟩=>?_;obtain⟨a,e,⟨xs,hq⟩,q⟩:=q1;subst e;cases r1;obtain⟨its,rv,p,hz⟩:=I1.list hq;refine wpAny_pyIter_list p.isList ?_;refine⟨s1.heap.objs.size,[s1.heap.objs.size],_,_,H1,rfl,I1.kept (t':=s1.toks) fun b o e=>Heap.get?_push_of_some _ e,zne a _,⟨_,Heap.get?_push_size _ rfl,rfl,rfl⟩,fun b hb=>?_,q⟩;have e:b=s1.heap.objs.size:=by simpa using hb
 subst e;exact I1.fpOk (Nat.le_refl _) (I1.hok.fresh (Nat.le_refl _))
theorem zqn {l:Expr}{tl:TE}(hl:PE X l tl):PI X tg l (zrG X.K tl):=by
 intro pins s σ H R I h;refine thn (hl pins s σ H _ I h) fun v s1 ⟨x,H1,I1,r1,q1⟩=>?_;obtain⟨a,e,⟨xs,hq⟩,q⟩:=q1;subst e;cases r1;obtain⟨its,rv,p,hz⟩:=I1.tuple hq;refine wpAny_pyIter_tuple (show s1.heap.IsTuple a its.toArray from p) ?_;refine⟨s1.heap.objs.size,[s1.heap.objs.size],_,_,H1,rfl,I1.kept (t':=s1.toks) fun b o e=>Heap.get?_push_of_some _ e,zlx a _,⟨_,Heap.get?_push_size _ rfl,rfl,rfl⟩,fun b hb=>?_,q⟩;have e:b=s1.heap.objs.size:=by simpa using hb
 subst e;exact I1.fpOk (Nat.le_refl _) (I1.hok.fresh (Nat.le_refl _))
theorem zoy {pins:List (Addr×Obj)}{σ:St}{H:Hp}{s:Shared}{R:It->Hp->Prop}{E:Value->Shared->Prop}{lo hi:Int}{t u v:Tok}{tk:Nat}(I:Inv X pins σ H s) (h1:-(2 ^ 62)<=lo) (h2:lo<2 ^ 62) (h3:-(2 ^ 62)<=hi) (h4:hi<2 ^ 62)
  (q:R (Itr lo (hi-lo).toNat) H):wpAny (model X.prog X.w) X.A (pyIter (.ref s.heap.objs.size)) (PIE X pins σ tg R) E { s with heap:=s.heap.push { cls:=.type "range",data:=.fields #[.int lo t,.int hi u,.int 1 v] },toks:=tk }:=by
 refine wpAny_pyIter_range (IsRange.new ..) (small_one h1 h2 h3 h4) ?_;have I1:Inv X pins σ H { s with heap:=s.heap.push { cls:=.type "range",data:=.fields #[.int lo t,.int hi u,.int 1 v] },toks:=tk }:=I.kept fun b o e=>Heap.get?_push_of_some _ e;refine⟨(s.heap.push { cls:=.type "range",data:=.fields #[.int lo t,.int hi u,.int 1 v] }).objs.size,[(s.heap.push { cls:=.type "range",data:=.fields #[.int lo t,.int hi u,.int 1 v] }).objs.size],_,_,H,rfl,
  I1.kept (t':=tk) fun b o e=>Heap.get?_push_of_some _ e,zme _ lo (hi-lo).toNat,?_,fun b hb=>?_,q⟩
 ·have e1:lo+((0:Nat):Int)*1=lo:=by simp
  have e2:(((hi-lo).toNat:Nat):Int)-((0:Nat):Int)=Builtin.Range.rangeSize lo hi 1:=by rw[rangeSize_one];split <;> omega
  show IsRangeIter _ _ (lo+((0:Nat):Int)*1) ((((hi-lo).toNat:Nat):Int)-((0:Nat):Int)) 1;rw[e1,e2];exact Heap.get?_push_size _ rfl
 ·have e:b=(s.heap.push { cls:=.type "range",data:=.fields #[.int lo t,.int hi u,.int 1 v] }).objs.size:=by simpa using hb
  subst e;exact I1.fpOk (Nat.le_refl _) (I1.hok.fresh (Nat.le_refl _))
def zqZ (ta:TA):TI:=fun σ H R=>ta σ H fun vs H1=>∃j:Int,vs=[.int j]/\-(2 ^ 62)<=j/\j<2 ^ 62/\R (Itr 0 j.toNat) H1
theorem znv {a:Expr}{ta:TA}{p pos:Pos}(hg:Gl X "range") (hm:X.mg "range" = none) (ha:PA X [a] ta) (hs:starEach [a] X.env=[(false,eval a X.env)]:=by rfl):PI X tg (.Call (.Name "range" p) [a] [] pos) (zqZ ta):=by
 intro pins s σ H R I h;refine Call_ (zd2 I hg hm boot_range (PyProof.Rows.callWith_type1 (thn (ha pos pins s σ H _ I h) fun us s1 ⟨vs,H1,I1,r1,q1⟩=>?_) hs rfl));obtain⟨j,e,q1,q2,q⟩:=q1;subst e;cases r1 with
 |cons r rr =>
  cases rr;obtain⟨t,rfl⟩:=r;exact call_range_1 (zoy I1 (by omega) (by omega) q1 q2 (by simpa using q))
def zrg (wi:TI) (g:TG) (tb:TS):TS:=fun D σ H=>wi σ H fun J H1=>∃W:Nat->Nat->St->Hp->Prop,(∃m,W 0 m σ H1)/\∀i m σ H,W i m σ H ->
 (J.stop i H/\D.nx σ H)\/(J.go i H/\∃N:St->Hp->Prop,(∀σ' H',N σ' H'->∃m',m'<m/\W (i+1) m' σ' H')/\∀x H',J.yld i H x H'->g x σ H' fun σ2 H2=>tb { D with nx:=N,ct:=N,bk:=D.nx } σ2 H2)
def zhU (fp:List Addr) (h:Heap):List (Addr×Obj):=fp.filterMap fun b=>(h.get? b).map fun o=>(b,o)
theorem zeH {fp:List Addr}{h:Heap}{b:Addr}{o:Obj}(hb:b∈fp) (e:h.get? b=some o):(b,o)∈zhU fp h:=List.mem_filterMap.mpr ⟨b,hb,by rw[e];rfl⟩
theorem zmU {fp:List Addr}{h:Heap}{p:Addr×Obj}(hp:p∈zhU fp h):p.1∈fp/\h.get? p.1=some p.2:=by
 obtain⟨b,hb,e⟩:=List.mem_filterMap.mp hp;cases q:h.get? b with
 |none=>rw[q] at e;cases e
 |some o =>
  rw[q] at e;have e':(b,o)=p:=Option.some.inj e;subst e';exact⟨hb,q⟩
theorem Inv.pinned {pins:List (Addr×Obj)}{σ:St}{H:Hp}{s:Shared}{fp:List Addr}(I:Inv X pins σ H s) (hf:∀b∈fp,zgV X pins H b) (ho:∀b∈fp,∃o,s.heap.get? b=some o/\∀v,o.data≠.cell v):Inv X (pins++zhU fp s.heap) σ H s :=
 I.pins_of fun p hp=>(List.mem_append.mp hp).elim (fun z=>I.pin p (List.mem_append_right _ z)) fun z=>by
  obtain⟨hb,e⟩:=zmU z;obtain⟨f0,f1,f2,_⟩:=hf p.1 hb;obtain⟨o,e',d⟩:=ho p.1 hb;rw[e] at e';cases e';exact⟨e,f0,f1,f2,d⟩
theorem Inv.unpinned {pins pl:List (Addr×Obj)}{σ:St}{H:Hp}{s:Shared}(I:Inv X (pins++pl) σ H s):Inv X pins σ H s:=I.pins_of fun p hp=>I.pin p (List.mem_append_right _ (List.mem_append_left _ hp))
theorem zcV {iter:Expr}{body:List Stmt}{wi:TI}{g:TG}{tb:TS}{pos:Pos}(hp:PassesOwn (model X.prog X.w) X.A X.env X.xe) (hc:X.calm=true) (hi:PI X tg iter wi) (hg:PG X tg g) (hb:PSs X body tb)
  (hs:∀x,foldedSetIterable iter X.env x=pure x:=by intro _;rfl):PS X (.For tg iter body [] pos) (zrg wi g tb):=by
 intro pins s σ H D I h;refine wpAny_For (thn (hi pins s σ H _ I h) fun v s1 h1=>thn h1 fun itv s2 h2=>?_) hs;obtain⟨it,fp,tn,J,H2,e,I2,T,st2,f2,W,⟨m0,w0⟩,turn⟩:=h2;subst e;have stat:∀{H':Hp},(∀b∈fp,H' b=none)->∀b∈fp,zgV X pins H' b:=fun hn b hb=>⟨hn b hb,(f2 b hb).2⟩
 refine codeAny_forLoop_any (fun n s'=>∃i σ' H',Inv X pins σ' H' s'/\tn i s'.heap/\(∀b∈fp,H' b=none)/\W i n σ' H') ?_ m0 ⟨0,σ,H2,I2,st2,fun b hb=>(f2 b hb).1,w0⟩;rintro n s3 ⟨i,σ3,H3,I3,st3,fr3,w3⟩;rcases turn i n σ3 H3 w3 with⟨stop,qn⟩|⟨go,N,hN,step⟩
 ·refine wpAny_passesOwn hp (thn (T.done X rfl rfl rfl hc i pins s3 σ3 H3 X.xe I3 (stat fr3) st3 stop) fun r s4 ⟨hr,I4⟩=>?_);subst hr;exact wpAny_execs_nil ⟨σ3,H3,I4,qn⟩
 ·refine wpAny_passesOwn hp (thn (T.item X rfl rfl rfl hc i pins s3 σ3 H3 X.xe I3 (stat fr3) st3 go) fun r s4 ⟨u,hr,h4⟩=>?_);subst hr;refine wpAny_passesOwn hp (thn h4 fun _ s5 ⟨x,H5,I5,r5,y5,st5,fr5⟩=>?_);have I5':=I5.pinned (stat fr5) (T.obj _ _ st5);refine wpAny_passesOwn hp (thn (hg _ s5 σ3 H5 x u _ I5' r5 (step x H5 y5)) fun _ s6 ⟨σ6,H6,I6,q6⟩=>?_);refine wpAny_passesOwn hp (thn (hb _ s6 σ6 H6 _ I6 q6) fun f s7 q7=>?_);have again:∀{σ7:St} {H7:Hp},Inv X (pins++zhU fp s5.heap) σ7 H7 s7->N σ7 H7->∃m,m<n/\∃i σ' H',Inv X pins σ' H' s7/\tn i s7.heap/\(∀b∈fp,H' b=none)/\W i m σ' H':=fun{σ7 H7} I7 n7=>by
   obtain⟨m',hm,w7⟩:=hN σ7 H7 n7;refine⟨m',hm,i+1,σ7,H7,I7.unpinned,T.keep _ _ _ st5 fun b hb o e=>(I7.pin (b,o) (List.mem_append_right _ (List.mem_append_right _ (zeH hb e)))).1,fun b hb=>?_,w7⟩;obtain⟨o,e,d⟩:=T.obj _ _ st5 b hb;exact(I7.pin (b,o) (List.mem_append_right _ (List.mem_append_right _ (zeH hb e)))).2.1
  cases f with
  |next=>obtain⟨σ7,H7,I7,n7⟩:=q7;exact again I7 n7
  |cont=>obtain⟨σ7,H7,I7,n7⟩:=q7;exact again I7 n7
  |brk=>obtain⟨σ7,H7,I7,q7⟩:=q7;exact⟨σ7,H7,I7.unpinned,q7⟩
  |ret v=>obtain⟨x7,σ7,H7,I7,r7,q7⟩:=q7;exact⟨x7,σ7,H7,I7.unpinned,r7,q7⟩
end
theorem zby {K:PySem.W.Frag}{a:Addr}{xs:List V}{g:TG}{tb:TS}{D:zhI}{σ:St}{H:Hp}(Pv:Nat->St->Hp->Prop) (h0:Pv 0 σ H) (hl:∀i σ H,i<=xs.length->Pv i σ H->SqL K H a xs)
  (hs:∀i x σ H,xs[i]?=some x->Pv i σ H->g x σ H fun σ2 H2=>tb { D with nx:=Pv (i+1),ct:=Pv (i+1),bk:=D.nx } σ2 H2) (hd:∀σ H,Pv xs.length σ H->D.nx σ H) :
  ∃W:Nat->Nat->St->Hp->Prop,(∃m,W 0 m σ H)/\∀i m σ H,W i m σ H ->
   ((Itl K a).stop i H/\D.nx σ H)\/((Itl K a).go i H/\∃N:St->Hp->Prop,(∀σ' H',N σ' H'->∃m',m'<m/\W (i+1) m' σ' H')/\∀x H',(Itl K a).yld i H x H'->g x σ H' fun σ2 H2=>tb { D with nx:=N,ct:=N,bk:=D.nx } σ2 H2):=by
 refine⟨fun i m σ H=>m=xs.length-i/\i<=xs.length/\Pv i σ H,⟨xs.length,by simp,Nat.zero_le _,h0⟩,?_⟩;rintro i m σ H ⟨rfl,hi,p⟩;have q:=hl i σ H hi p;by_cases hlt:i<xs.length
 ·refine .inr ⟨⟨xs,xs[i],q,by simp[hlt]⟩,Pv (i+1),fun σ' H' p'=>⟨xs.length-(i+1),by omega,rfl,hlt,p'⟩,fun x H' y=>?_⟩;obtain⟨e,y⟩:=y;subst e;exact hs i x σ _ (y xs q) p
 ·have e:i=xs.length:=by omega
  subst e;exact .inl ⟨⟨xs,q,Nat.le_refl _⟩,hd σ H p⟩
end L2
namespace L2
open PySem PySem.Spec PyProof.Rows
abbrev R2:=V->V->Hp->VK->Prop
def OpR (X:Cx) (f:Value->Value->Sem Value) (r:R2):Prop :=
 ∀(pins:List (Addr×Obj)) (s:Shared) (σ:St) (H:Hp) (x y:V) (v u:Value) (Q:VK),Inv X pins σ H s->RelV x v->RelV y u->r x y H Q ->
  wpAny (model X.prog X.w) X.A (f v u) (EP X pins σ Q) X.xe s
def UnR (X:Cx) (f:Value->Sem Value) (r:V->Hp->VK->Prop):Prop :=
 ∀(pins:List (Addr×Obj)) (s:Shared) (σ:St) (H:Hp) (x:V) (v:Value) (Q:VK),Inv X pins σ H s->RelV x v->r x H Q ->
  wpAny (model X.prog X.w) X.A (f v) (EP X pins σ Q) X.xe s
def zgD (X:Cx) (f:Value) (r:List V->Hp->VK->Prop):Prop :=
 ∀(pins:List (Addr×Obj)) (s:Shared) (σ:St) (H:Hp) (xs:List V) (us:List Value) (Q:VK),Inv X pins σ H s->Vals xs us->r xs H Q ->
  wpAny (model X.prog X.w) X.A (call f us) (EP X pins σ Q) X.xe s
def tOp (r:R2) (ta tb:TE):TE:=fun σ H Q=>ta σ H fun x H1=>tb σ H1 fun y H2=>r x y H2 Q
def tUn (r:V->Hp->VK->Prop) (ta:TE):TE:=fun σ H Q=>ta σ H fun x H1=>r x H1 Q
def rI (C:Int->Int->Prop) (g:Int->Int->V):R2:=fun x y H Q=>∃i j,x=.int i/\y=.int j/\C i j/\Q (g i j) H
def rI0 (g:Int->Int->V):R2:=fun x y H Q=>∃i j,x=.int i/\y=.int j/\Q (g i j) H
def rU (g:Int->V):V->Hp->VK->Prop:=fun x H Q=>∃i,x=.int i/\Q (g i) H
section
variable {X:Cx}{a b c:Expr}{ta tb tc:TE}{pos:Pos}
theorem zqG (ha:PE X a ta) (hb:PE X b tb) {pins:List (Addr×Obj)}{s:Shared}{σ:St}{H:Hp}{R:V->V->Hp->Prop}(I:Inv X pins σ H s)
  (h:ta σ H fun x H1=>tb σ H1 fun y H2=>R x y H2) {Q:Value->Shared->Prop} {f:Value->Value->Sem Value}
  (hf:∀v u s2 x y H2,Inv X pins σ H2 s2->RelV x v->RelV y u->R x y H2->wpAny (model X.prog X.w) X.A (f v u) Q X.xe s2) :
  wpAny (model X.prog X.w) X.A (eval a X.env) (fun v s₁=>wpAny (model X.prog X.w) X.A (eval b X.env) (fun u s₂=>wpAny (model X.prog X.w) X.A (f v u) Q X.xe s₂) X.xe s₁) X.xe s:=by
 refine thn (ha pins s σ H _ I h) fun v s1 ⟨x,H1,I1,r1,q1⟩=>?_;refine thn (hb pins s1 σ H1 _ I1 q1) fun u s2 ⟨y,H2,I2,r2,q2⟩=>?_;exact hf v u s2 x y H2 I2 r1 r2 q2
theorem zaF {op:Operator}{r:R2}(ho:OpR X (binaryOp op) r) (ha:PE X a ta) (hb:PE X b tb):PE X (.BinOp a op b pos) (tOp r ta tb):=by
 intro pins s σ H Q I h;exact wpAny_BinOp (zqG ha hb I h fun v u s2 x y H2 I2 rx ry q=>ho pins s2 σ H2 x y v u Q I2 rx ry q)
theorem zez {op:UnaryOp}{r:V->Hp->VK->Prop}(ho:UnR X (unaryOp op) r) (ha:PE X a ta):PE X (.UnaryOp op a pos) (tUn r ta):=by
 intro pins s σ H Q I h;exact UnaryOp_ (thn (ha pins s σ H _ I h) fun v s1 ⟨x,H1,I1,r1,q1⟩=>ho pins s1 σ H1 x v Q I1 r1 q1)
theorem opI {f:Value->Value->Sem Value}{C:Int->Int->Prop}{g:Int->Int->Int}
  (rule:∀(i j:Int) (t u:Tok) (s:Shared) (Q:Value->Shared->Prop) (E:Value->Shared->Prop),C i j->Q (.int (g i j) s.toks) { s with toks:=s.toks+1 }->wpAny (model X.prog X.w) X.A (f (.int i t) (.int j u)) Q E s) :
  OpR X f (rI C fun i j=>.int (g i j)):=by
 intro pins s σ H x y v u Q I rx ry h;obtain⟨i,j,rfl,rfl,hc,q⟩:=h;obtain⟨t,rfl⟩:=rx;obtain⟨t',rfl⟩:=ry;exact rule i j t t' s _ _ hc ⟨.int (g i j),H,I.tok _,⟨_,rfl⟩,q⟩
theorem zrd {f:Value->Value->Sem Value}{g:Int->Int->Int}
  (rule:∀(i j:Int) (t u:Tok) (s:Shared) (Q:Value->Shared->Prop) (E:Value->Shared->Prop),Q (.int (g i j) s.toks) { s with toks:=s.toks+1 }->wpAny (model X.prog X.w) X.A (f (.int i t) (.int j u)) Q E s) :
  OpR X f (rI0 fun i j=>.int (g i j)):=by
 intro pins s σ H x y v u Q I rx ry h;obtain⟨i,j,rfl,rfl,q⟩:=h;obtain⟨t,rfl⟩:=rx;obtain⟨t',rfl⟩:=ry;exact rule i j t t' s _ _ ⟨.int (g i j),H,I.tok _,⟨_,rfl⟩,q⟩
theorem zpL {f:Value->Value->Sem Value}{g:Int->Int->Bool}
  (rule:∀(i j:Int) (t u:Tok) (s:Shared) (Q:Value->Shared->Prop) (E:Value->Shared->Prop),Q (.bool (g i j)) s->wpAny (model X.prog X.w) X.A (f (.int i t) (.int j u)) Q E s) :
  OpR X f (rI0 fun i j=>.bl (g i j)):=by
 intro pins s σ H x y v u Q I rx ry h;obtain⟨i,j,rfl,rfl,q⟩:=h;obtain⟨t,rfl⟩:=rx;obtain⟨t',rfl⟩:=ry;exact rule i j t t' s _ _ ⟨.bl (g i j),H,I,rfl,q⟩
def CMul (i j:Int):Prop:=(-(2 ^ 64)<i/\i<2 ^ 64)\/(-(2 ^ 64)<j/\j<2 ^ 64)
theorem CMul.ok {i j:Int}(h:CMul i j):IntMulOk i j:=by
 rcases h with⟨h1,h2⟩|⟨h1,h2⟩
 ·exact .of_left (intBits_le_64 h1 h2)
 ·exact .of_right (intBits_le_64 h1 h2)
theorem zcY:OpR X (binaryOp .Add) (rI0 fun i j=>.int (i+j)):=zrd fun _ _ _ _ _ _ _ q=>add_int q
theorem zj8:OpR X (binaryOp .Sub) (rI0 fun i j=>.int (i-j)):=zrd fun _ _ _ _ _ _ _ q=>sub_int q
theorem zp4:OpR X (binaryOp .Mult) (rI CMul fun i j=>.int (i*j)):=opI fun _ _ _ _ _ _ _ hc q=>mul_int q hc.ok
theorem unI {f:Value->Sem Value}{g:Int->Int}
  (rule:∀(i:Int) (t:Tok) (s:Shared) (Q:Value->Shared->Prop) (E:Value->Shared->Prop),Q (.int (g i) s.toks) { s with toks:=s.toks+1 }->wpAny (model X.prog X.w) X.A (f (.int i t)) Q E s) :
  UnR X f (rU fun i=>.int (g i)):=by
 intro pins s σ H x v Q I rx h;obtain⟨i,rfl,q⟩:=h;obtain⟨t,rfl⟩:=rx;exact rule i t s _ _ ⟨.int (g i),H,I.tok _,⟨_,rfl⟩,q⟩
theorem zb2:UnR X (unaryOp .USub) (rU fun i=>.int (-i)):=unI fun _ _ _ _ _ q=>neg_int q
end
def zqW:V->V->Bool
 |.non,.non=>true|.non,.int _=>true|.int _,.non=>true|.non,.bl _=>true|.bl _,.non=>true|.non,.str _=>true|.str _,.non=>true
 |.int _,.int _=>true|.bl _,.bl _=>true|.str _,.str _=>true|.byt _,.byt _=>true
 |.int _,.str _=>true|.str _,.int _=>true|.bl _,.str _=>true|.str _,.bl _=>true
 |_,_=>false
def rEq:R2:=fun x y H Q=>zqW x y=true/\Q (.bl (decide (x=y))) H
def rNe:R2:=fun x y H Q=>zqW x y=true/\Q (.bl (!decide (x=y))) H
theorem zmu {i j:Int}:decide (V.int i=V.int j)=(i == j):=by
 rw[Bool.eq_iff_iff];simp
theorem zoK {i j:Bool}:decide (V.bl i=V.bl j)=(i == j):=by
 rw[Bool.eq_iff_iff];simp
theorem zmf {i j:Str}:decide (V.str i=V.str j)=(i == j):=by
 rw[Bool.eq_iff_iff];simp
theorem zmJ {i j:Array UInt8}:decide (V.byt i=V.byt j)=(i.toList == j.toList):=by
 rw[Bool.eq_iff_iff];cases i;cases j;simp
section
variable {X:Cx}{a b c:Expr}{ta tb tc:TE}{pos:Pos}
theorem yb {pins:List (Addr×Obj)}{σ:St}{H:Hp}{s:Shared}{Q:VK}{k k':Bool}(I:Inv X pins σ H s) (q:Q (.bl k) H) (e:k=k'):EP X pins σ Q (.bool k') s:=by
 subst e;exact⟨.bl k,H,I,rfl,q⟩
theorem zcs:OpR X (compareOp .Eq) rEq:=by
 intro pins s σ H x y v u Q I rx ry h;obtain⟨hs,q⟩:=h;cases x with
 |non =>
  cases rx;cases y with
  |non=>cases ry;exact PySem.EqNone.eq_none_none (yb I q (by simp))
  |bl j=>cases ry;exact PySem.EqNone.eq_none_bool (yb I q (by simp))
  |int j=>obtain⟨t',rfl⟩:=ry;exact PySem.EqNone.eq_none_int (yb I q (by simp))
  |str j=>obtain⟨t',rfl⟩:=ry;exact PySem.EqNone.eq_none_str (yb I q (by simp))
  |_=>exact absurd (show false=true from hs) Bool.false_ne_true
 |bl i =>
  cases rx;cases y with
  |non=>cases ry;exact PySem.EqNone.eq_bool_none (yb I q (by simp))
  |bl j=>cases ry;exact eq_bool (yb I q zoK)
  |str j=>obtain⟨t',rfl⟩:=ry;exact PySem.EqMixed.eq_bool_str (yb I q (by simp))
  |_=>exact absurd (show false=true from hs) Bool.false_ne_true
 |int i =>
  obtain⟨t,rfl⟩:=rx;cases y with
  |non=>cases ry;exact PySem.EqNone.eq_int_none (yb I q (by simp))
  |int j=>obtain⟨t',rfl⟩:=ry;exact eq_int (yb I q zmu)
  |str j=>obtain⟨t',rfl⟩:=ry;exact PySem.EqMixed.eq_int_str (yb I q (by simp))
  |_=>exact absurd (show false=true from hs) Bool.false_ne_true
 |str i =>
  obtain⟨t,rfl⟩:=rx;cases y with
  |non=>cases ry;exact PySem.EqNone.eq_str_none (yb I q (by simp))
  |bl j=>cases ry;exact PySem.EqMixed.eq_str_bool (yb I q (by simp))
  |int j=>obtain⟨t',rfl⟩:=ry;exact PySem.EqMixed.eq_str_int (yb I q (by simp))
  |str j=>obtain⟨t',rfl⟩:=ry;exact eq_str (yb I q zmf)
  |_=>exact absurd (show false=true from hs) Bool.false_ne_true
 |byt i =>
  obtain⟨t,rfl⟩:=rx;cases y with
  |byt j=>obtain⟨t',rfl⟩:=ry;exact PySem.W.eq_bytes (yb I q zmJ)
  |_=>exact absurd (show false=true from hs) Bool.false_ne_true
 |_=>cases y <;> exact absurd (show false=true from hs) Bool.false_ne_true
theorem zmq:OpR X (compareOp .NotEq) rNe:=by
 intro pins s σ H x y v u Q I rx ry h;obtain⟨hs,q⟩:=h;cases x with
 |non =>
  cases rx;cases y with
  |non=>cases ry;exact PySem.EqNone.ne_none_none (yb I q (by simp))
  |bl j=>cases ry;exact PySem.EqNone.ne_none_bool (yb I q (by simp))
  |int j=>obtain⟨t',rfl⟩:=ry;exact PySem.EqNone.ne_none_int (yb I q (by simp))
  |str j=>obtain⟨t',rfl⟩:=ry;exact PySem.EqNone.ne_none_str (yb I q (by simp))
  |_=>exact absurd (show false=true from hs) Bool.false_ne_true
 |bl i =>
  cases rx;cases y with
  |non=>cases ry;exact PySem.EqNone.ne_bool_none (yb I q (by simp))
  |bl j=>cases ry;exact ne_bool (yb I q (congrArg not zoK))
  |str j=>obtain⟨t',rfl⟩:=ry;exact PySem.EqMixed.ne_bool_str (yb I q (by simp))
  |_=>exact absurd (show false=true from hs) Bool.false_ne_true
 |int i =>
  obtain⟨t,rfl⟩:=rx;cases y with
  |non=>cases ry;exact PySem.EqNone.ne_int_none (yb I q (by simp))
  |int j=>obtain⟨t',rfl⟩:=ry;exact ne_int (yb I q (congrArg not zmu))
  |str j=>obtain⟨t',rfl⟩:=ry;exact PySem.EqMixed.ne_int_str (yb I q (by simp))
  |_=>exact absurd (show false=true from hs) Bool.false_ne_true
 |str i =>
  obtain⟨t,rfl⟩:=rx;cases y with
  |non=>cases ry;exact PySem.EqNone.ne_str_none (yb I q (by simp))
  |bl j=>cases ry;exact PySem.EqMixed.ne_str_bool (yb I q (by simp))
  |int j=>obtain⟨t',rfl⟩:=ry;exact PySem.EqMixed.ne_str_int (yb I q (by simp))
  |str j=>obtain⟨t',rfl⟩:=ry;exact ne_str (yb I q (congrArg not zmf))
  |_=>exact absurd (show false=true from hs) Bool.false_ne_true
 |byt i =>
  obtain⟨t,rfl⟩:=rx;cases y with
  |byt j=>obtain⟨t',rfl⟩:=ry;exact PySem.W.ne_bytes (yb I q (congrArg not zmJ))
  |_=>exact absurd (show false=true from hs) Bool.false_ne_true
 |_=>cases y <;> exact absurd (show false=true from hs) Bool.false_ne_true
theorem zpW:OpR X (compareOp .Lt) (rI0 fun i j=>.bl (decide (i<j))):=zpL fun _ _ _ _ _ _ _ q=>lt_int q
theorem za4:OpR X (compareOp .LtE) (rI0 fun i j=>.bl (decide (i<=j))):=zpL fun _ _ _ _ _ _ _ q=>le_int q
theorem zkz:OpR X (compareOp .Gt) (rI0 fun i j=>.bl (decide (j<i))):=zpL fun _ _ _ _ _ _ _ q=>gt_int q
theorem zpT:OpR X (compareOp .GtE) (rI0 fun i j=>.bl (decide (j<=i))):=zpL fun _ _ _ _ _ _ _ q=>ge_int q
theorem zJ (b:Expr) {op:CmpOp}(h:op≠.In:=by decide) (h2:op≠.NotIn:=by decide):behindInMarks op b=false:=by
 have e1:(op == CmpOp.In)=false:=by cases op <;> first|rfl|exact absurd rfl h
 have e2:(op == CmpOp.NotIn)=false:=by cases op <;> first|rfl|exact absurd rfl h2
 cases b <;> simp[behindInMarks,e1,e2]
theorem Zi {op:CmpOp}{r:R2}(ho:OpR X (compareOp op) r) (ha:PE X a ta) (hb:PE X b tb) (hm:behindInMarks op b=false):PE X (.Compare a [op] [b] pos) (tOp r ta tb):=by
 intro pins s σ H Q I h;exact wpAny_Compare1 (zqG ha hb I h fun v u s2 x y H2 I2 rx ry q=>ho pins s2 σ H2 x y v u Q I2 rx ry q) hm
def zmt (t:TE):TT:=fun σ H Q=>t σ H fun x H'=>∃k,x=.bl k/\Q k H'
theorem zH {op:CmpOp}{r:R2}(ho:OpR X (compareOp op) r) (ha:PE X a ta) (hb:PE X b tb) (hm:behindInMarks op b=false):PT X (.Compare a [op] [b] pos) (zmt (tOp r ta tb)):=by
 intro pins s σ H Q I h;refine wpAny_isTrue_Compare1 (thn (ha pins s σ H _ I h) fun v s1 ⟨x,H1,I1,r1,q1⟩=>thn (hb pins s1 σ H1 _ I1 q1) fun u s2 ⟨y,H2,I2,r2,q2⟩ =>
  thn (ho pins s2 σ H2 x y v u _ I2 r1 r2 q2) fun c s3 ⟨z,H3,I3,r3,k,e,q3⟩=>?_) hm
 subst e;cases r3;exact wpAny_truthy_bool ⟨H3,I3,q3⟩
def zhM (r r':R2) (ta tb tc:TE):TE:=fun σ H Q=>ta σ H fun x H1=>tb σ H1 fun y H2=>r x y H2 fun z H3=>∃k,z=.bl k /\
 (if k=true then tc σ H3 fun w' H4=>r' y w' H4 Q else Q (.bl false) H3)
theorem ze7 {op op':CmpOp}{r r':R2}(ho:OpR X (compareOp op) r) (ho':OpR X (compareOp op') r') (ha:PE X a ta) (hb:PE X b tb) (hc:PE X c tc)
  (hm:lastMarks [op,op'] [b,c]=false:=by with_unfolding_all rfl):PE X (.Compare a [op,op'] [b,c] pos) (zhM r r' ta tb tc):=by
 intro pins s σ H Q I h;refine Compare_chain (thn (ha pins s σ H _ I h) fun v s1 ⟨x,H1,I1,r1,q1⟩=>chain_link (thn (hb pins s1 σ H1 _ I1 q1) fun u s2 ⟨y,H2,I2,r2,q2⟩ =>
  thn (ho pins s2 σ H2 x y v u _ I2 r1 r2 q2) fun d s3 ⟨z,H3,I3,r3,k,e,q3⟩=>?_)) hm
 subst e;cases r3;refine wpAny_truthy_bool ?_;cases k with
 |false=>exact ite_ff ⟨.bl false,H3,I3,rfl,q3⟩
 |true=>exact ite_tt (chain_last (thn (hc pins s3 σ H3 _ I3 q3) fun w' s4 ⟨z',H4,I4,r4,q4⟩=>ho' pins s4 σ H4 y z' u w' Q I4 r2 r4 q4))
theorem zku {op op':CmpOp}{r r':R2}(ho:OpR X (compareOp op) r) (ho':OpR X (compareOp op') r') (ha:PE X a ta) (hb:PE X b tb) (hc:PE X c tc)
  (hm:lastMarks [op,op'] [b,c]=false:=by with_unfolding_all rfl):PT X (.Compare a [op,op'] [b,c] pos) (zmt (zhM r r' ta tb tc)):=by
 intro pins s σ H Q I h;refine isTrue_chain (thn (ha pins s σ H _ I h) fun v s1 ⟨x,H1,I1,r1,q1⟩=>test_link (thn (hb pins s1 σ H1 _ I1 q1) fun u s2 ⟨y,H2,I2,r2,q2⟩ =>
  thn (ho pins s2 σ H2 x y v u _ I2 r1 r2 q2) fun d s3 ⟨z,H3,I3,r3,k,e,q3⟩=>?_)) hm
 subst e;cases r3;refine wpAny_truthy_bool ?_;cases k with
 |false =>
  obtain⟨k',e',q'⟩:=q3;cases e';exact ite_ff ⟨H3,I3,q'⟩
 |true =>
  refine ite_tt (test_last (thn (hc pins s3 σ H3 _ I3 q3) fun w' s4 ⟨z',H4,I4,r4,q4⟩=>thn (ho' pins s4 σ H4 y z' u w' _ I4 r2 r4 q4) fun d' s5 ⟨z2,H5,I5,r5,k2,e2,q5⟩=>?_));subst e2;cases r5;exact wpAny_truthy_bool ⟨H5,I5,q5⟩
theorem zjl:(sizeLine:Nat)<2 ^ 63:=by rw[sizeLine_eq];decide
theorem zoe {x:V}{us:List Value}(r:Vals [x] us):∃u,us=[u]/\RelV x u:=by
 cases r with
 |cons r1 r2=>cases r2;exact⟨_,rfl,r1⟩
theorem zoh:zgD X (.builtin "ord") (fun xs H Q=>∃x,xs=[.str x]/\x.length=1/\Q (.int (x.cps.getD 0 0:Nat)) H):=by
 intro pins s σ H xs us Q I r h;obtain⟨x,rfl,hz,q⟩:=h;obtain⟨u,rfl,t,rfl⟩:=zoe r;exact ord_of_one hz ⟨.int _,H,I.tok _,⟨_,rfl⟩,q⟩
end
end L2
namespace L2
open PySem PySem.Spec PyProof.Rows
structure ObjM (h:Heap) (x dx C:Addr) (mA:Str->Option Value):Prop where
 obj:h.get? x=some (PySem.W.instObj C dx)
 ns:h.Ns1 dx mA
 ne:dx≠x
theorem zfS {h:Heap}{dx:Addr}{mA:Str->Option Value}(n:h.Ns1 dx mA):∃od,h.get? dx=some od/\∀name,PySem.W.lookIn name od=some (mA name):=by
 obtain⟨o,es,ep,ho,hd,hk,_,hm⟩:=n;refine⟨o,ho,fun name=>?_⟩;have e:=hm name;unfold nsFind findBy at e;rw[<-Array.find?_toList] at e;unfold PySem.W.lookIn;rw[hd];dsimp only;split
 ·rename_i y q;rw[q] at e;exact congrArg some e
 ·rename_i q;rw[q] at e;have a:es.toList.any (·.refKey)=false:=by
   rw[List.any_eq_false];intro y hy;obtain⟨z,t,hkey⟩:=hk y (Array.mem_toList_iff.mp hy);simp[DictEntry.refKey,hkey]
  have a':¬es.toList.any (·.refKey)=true:=by rw[a];exact Bool.false_ne_true
  rw[if_neg a'];exact congrArg some e
theorem ObjM.look {h:Heap}{x dx C:Addr}{mA:Str->Option Value}(I:ObjM h x dx C mA):∃od,PySem.W.InstAt h x (PySem.W.instObj C dx) C (some od)/\∀name,PySem.W.lookIn name od=some (mA name) :=
 let ⟨od,ho,hl⟩:=zfS I.ns
 ⟨od,⟨I.obj,rfl,rfl,ho⟩,hl⟩
section
variable {prog:Program}{w:World}{A:Around}{E:Value->Shared->Prop}{s:Shared}{K:PySem.W.Frag}{x dx C f:Addr}{mA:Str->Option Value}{name:Str}{v:Value}
theorem zpd {expr:Bool}{Q:Value->Shared->Prop}(X:K.In s.heap) (I:ObjM s.heap x dx C mA) (hg:PySem.W.plainGet K C name=true) (hh:PySem.W.hasDictIn K C=true)
  (ha:PySem.W.findIn K (.ref C) name=some none) (hv:mA name=some v) (hv':PySem.W.handedIn v=true) (h:Q v { s with toks:=s.toks+1 }) :
  wpAny (model prog w) A (getAttr (.ref x) name expr) Q E s:=by
 obtain⟨od,J,hl⟩:=I.look;exact PySem.W.get_value X J (PySem.W.plainGet_of hg).1 (PySem.W.findObj_own hh ha rfl (by rw[hl,hv])) hv' h
theorem zn3 {pl:Sem Bool}{Q:Value×List Value->Shared->Prop}(X:K.In s.heap) (I:ObjM s.heap x dx C mA) (hg:PySem.W.plainGet K C name=true)
  (hf:PySem.W.findIn K (.ref C) name=some (some (.ref f))) (ht:PySem.W.isFn K (.ref f)=true) (hv:mA name=none) (h:Q (.ref f,[.ref x]) s) :
  wpAny (model prog w) A (getMethod (.ref x) name pl) Q E s:=by
 obtain⟨od,J,hl⟩:=I.look;exact PySem.W.method_fn X J (PySem.W.plainGet_of hg).1 (PySem.W.plainGet_of hg).2 hf (beq_iff_eq.mp ht) (by show(PySem.W.lookIn name od).map (·.isSome)=some false;rw[hl,hv];rfl) h
theorem zpw {ns:List Str}{Q:Unit->Shared->Prop}(X:K.In s.heap) (I:ObjM s.heap x dx C mA)
  (hs:PySem.W.findIn K (.ref C) "__setattr__" = some (some (.builtin "object.__setattr__"))) (hp:PySem.W.plainOver K C=true) (ht:PySem.W.takerIn K C name=some none) (hh:PySem.W.hasDictIn K C=true)
  (hw:PySem.Within mA ns) (hsz:ns.length<=sizeLine)
  (h:∀h',ObjM h' x dx C (fun y=>if y=name then some v else mA y)->Heap.SameBut dx s.heap h'->Q () { s with heap:=h',toks:=s.toks+2 }) :
  wpAny (model prog w) A (setAttr (.ref x) name v) Q E s:=by
 obtain⟨od,J,hl⟩:=I.look;refine PySem.W.set_plain X J hs (PySem.W.osa_open (s:={ s with toks:=s.toks+1 }) (r:=none) X J hp ht fun b=>?_);obtain⟨cd,hc,hd'⟩:=PySem.W.any_some hh;have hx:s.heap.get? x=some ⟨.ref C,some dx,.plain,#[]⟩:=I.obj;refine wpAny_bind (wpAny_pure (wpAny_bind (wpAny_bind (wpAny_loadPart hx (wpAny_bind (PySem.W.Looks.here (s:={ s with toks:=s.toks+1 }) (PySem.W.looks_clsIn X hc) ?_))))));rw[hd'];refine wpAny_pure (a:=some dx) (wpAny_bind (wpAny_pure (wpAny_bind ?_)));refine wpAny_nsSet1 (s:={ s with toks:=s.toks+1 }) I.ns fun h' hn2 hs2=>?_;obtain⟨oD,esD,epD,hoD,hdD,hcD⟩:=hn2.count (PySem.Within.cons name v hw);refine wpAny_bind (wpAny_lookBehind hoD (by rw[hdD];exact pastItsLine_dict (Nat.le_trans hcD (by rw[List.length_cons];omega))) ?_);exact wpAny_pure (h _ ⟨(hs2.2 _ (Ne.symm I.ne)).trans I.obj,hn2,I.ne⟩ hs2)
theorem znN {R:Result->Shared->Prop}{vs:List Value}{kw:List (Str×Value)}(X:K.In s.heap) (hm:PySem.W.makesIn K C=true)
  (hi:PySem.W.findIn K (.ref C) "__init__" = some (some (.ref f))) (hf:PySem.W.typeIn K (.ref f)=some (.type "function"))
  (h:codeAny (model prog w) (A.under (.builtin "type.__call__" ⟨.ref C::vs,kw⟩)) (.call (.ref f) ⟨.ref (s.heap.objs.size+1)::vs,kw⟩) (PySem.W.InitBack (s.heap.objs.size+1) R)
    { s with heap:=(s.heap.push PySem.W.emptyDict).push (PySem.W.instObj C s.heap.objs.size) }) :
  codeAny (model prog w) A (.call (.ref C) ⟨vs,kw⟩) R s:=by
 obtain⟨hh,g,d,t,os⟩:=s;exact PySem.W.make_core (PySem.W.makes_of X hm) (PySem.W.looks_findIn X hi) (fun self=>PySem.W.bind_fn X self hf) (.inl rfl) h
end
def zcf (f:Str) (v:V):List (Str×V)->List (Str×V)
 |[]=>[(f,v)]
 |(g,x)::r=>if g=f then(g,v)::r else(g,x)::zcf f v r
theorem zd5 (f g:Str) (v:V):∀fs:List (Str×V),(zcf f v fs).lookup g=if g=f then some v else fs.lookup g
 |[]=>by
  show List.lookup g [(f,v)]=_;by_cases h:g=f
  ·have hb:(g == f)=true:=beq_iff_eq.mpr h;simp only[List.lookup,hb,if_pos h]
  ·have hb:(g == f)=false:=beq_eq_false_iff_ne.mpr h;simp only[List.lookup,hb,if_neg h]
 |(k,x)::r=>by
  have ih:=zd5 f g v r;rw[show zcf f v ((k,x)::r)=(if k=f then(k,v)::r else(k,x)::zcf f v r) from rfl];by_cases hk:k=f
  ·rw[if_pos hk];by_cases h:g=k
   ·have hb:(g == k)=true:=beq_iff_eq.mpr h;simp only[List.lookup,hb,if_pos (h.trans hk)]
   ·have hb:(g == k)=false:=beq_eq_false_iff_ne.mpr h;simp only[List.lookup,hb,if_neg (fun e:g=f=>h (e.trans hk.symm))]
  ·rw[if_neg hk];by_cases h:g=k
   ·have hb:(g == k)=true:=beq_iff_eq.mpr h;simp only[List.lookup,hb,if_neg (fun e:g=f=>hk (h.symm.trans e))]
   ·have hb:(g == k)=false:=beq_eq_false_iff_ne.mpr h;simp only[List.lookup,hb];exact ih
theorem zcg (f:Str) (v:V):∀fs:List (Str×V),f∈(zcf f v fs).map (·.1)/\∀g,g∈fs.map (·.1)->g∈(zcf f v fs).map (·.1)
 |[]=>⟨by simp[zcf],fun g h=>by simp at h⟩
 |(k,x)::r=>by
  obtain⟨i1,i2⟩:=zcg f v r;rw[show zcf f v ((k,x)::r)=(if k=f then(k,v)::r else(k,x)::zcf f v r) from rfl];by_cases hk:k=f
  ·rw[if_pos hk];subst hk;exact⟨by simp,fun g h=>by simpa using h⟩
  ·rw[if_neg hk];refine⟨?_,fun g h=>?_⟩
   ·rw[List.map_cons];exact List.mem_cons_of_mem _ i1
   ·rw[List.map_cons] at h ⊢;rcases List.mem_cons.mp h with e|e
    ·exact List.mem_cons.mpr (.inl e)
    ·exact List.mem_cons_of_mem _ (i2 g e)
theorem zdK (f:Str) (v:V):∀fs:List (Str×V),(zcf f v fs).length<=fs.length+1
 |[]=>by simp[zcf]
 |(k,x)::r=>by
  have ih:=zdK f v r;rw[show zcf f v ((k,x)::r)=(if k=f then(k,v)::r else(k,x)::zcf f v r) from rfl];by_cases hk:k=f
  ·rw[if_pos hk,List.length_cons,List.length_cons];omega
  ·rw[if_neg hk,List.length_cons,List.length_cons];omega
theorem RelO.some_of {v:V}{o:Option Value}(r:RelO (some v) o):∃u,o=some u/\RelV v u:=by
 cases o with
 |none=>exact(show False from r).elim
 |some u=>exact⟨u,rfl,r⟩
theorem RelO.none_of {o:Option Value}(r:RelO none o):o=none:=by
 cases o with
 |none=>rfl
 |some u=>exact(show False from r).elim
theorem ziT {v:V}{u:Value}(r:RelV v u):PySem.W.handedIn u=true:=by
 cases v with
 |non=>cases (show u=Value.none from r);rfl
 |bl b=>cases (show u=Value.bool b from r);rfl
 |int i=>obtain⟨t,e⟩:=(show ∃t,u=Value.int i t from r);cases e;rfl
 |str x=>obtain⟨t,e⟩:=(show ∃t,u=Value.str x t from r);cases e;rfl
 |byt b=>obtain⟨t,e⟩:=(show ∃t,u=Value.bytes b t from r);cases e;rfl
 |flt b=>obtain⟨t,e⟩:=(show ∃t,u=Value.float b t from r);cases e;rfl
 |ref a=>cases (show u=Value.ref a from r);rfl
 |ty n=>cases (show u=Value.type n from r);rfl
section
variable {P:Program}{w:World}{H H':Hp}{h h':Heap}{a C dx:Addr}{fs fs':List (Str×V)}
theorem zjJ (hok:HOk P w H h) (e:H a=some (.ins C dx fs)):∃mA,ObjM h a dx C mA/\(∀f,RelO (fs.lookup f) (mA f))/\PySem.Within mA (fs.map (·.1))/\fs.length<=1000/\H dx=some (.own a):=by
 obtain⟨d,z,ne,ob,mA,n,r,q⟩:=(show ObjOk P w H h a (.ins C dx fs) from hok a _ e)
 exact⟨mA,⟨ob,n,ne⟩,r,q,z,d⟩
end
structure Cls (K:PySem.W.Frag) (C:Addr):Prop where
 pg:PySem.W.plainGet K C Str.empty=true
 hd:PySem.W.hasDictIn K C=true
 po:PySem.W.plainOver K C=true
 sa:PySem.W.findIn K (.ref C) "__setattr__" = some (some (.builtin "object.__setattr__"))
theorem Cls.get {K:PySem.W.Frag}{C:Addr}(c:Cls K C) (f:Str):PySem.W.plainGet K C f=true:=c.pg
def NoAttr (K:PySem.W.Frag) (C:Addr) (f:Str):Prop:=PySem.W.findIn K (.ref C) f=some none
theorem NoAttr.taker {K:PySem.W.Frag}{C:Addr}{f:Str}(n:NoAttr K C f):PySem.W.takerIn K C f=some none:=by
 unfold PySem.W.takerIn;rw[show PySem.W.findIn K (.ref C) f=some none from n];rfl
structure Con (K:PySem.W.Frag) (C:Addr) (f:Str) (v:V) (u:Value):Prop where
 at_:PySem.W.findIn K (.ref C) f=some (some u)
 rel:RelV v u
 get:PySem.W.specialIn K u "__get__" = some none
 cp:PySem.W.copiedNames.contains f=false
structure znl (K:PySem.W.Frag) (C:Addr) (m:Str) (f:Addr):Prop where
 at_:PySem.W.findIn K (.ref C) m=some (some (.ref f))
 fn:PySem.W.isFn K (.ref f)=true
 kp:PySem.W.keepIn K (.ref f)=true
section
variable {X:Cx}{pins:List (Addr×Obj)}{σ:St}{H:Hp}{s:Shared}{a C dx:Addr}{fs:List (Str×V)}{f:Str}{v:V}{A:Around}{E:Value->Shared->Prop}
theorem zl4 {b:Bool}{Q:Value->Shared->Prop}(I:Inv X pins σ H s) (e:H a=some (.ins C dx fs)) (c:Cls X.K C) (n:NoAttr X.K C f) (l:fs.lookup f=some v)
  (h:∀u s',Inv X pins σ H s'->RelV v u->Q u s'):wpAny (model X.prog X.w) A (getAttr (.ref a) f b) Q E s:=by
 obtain⟨mA,O,r,_,_,_⟩:=zjJ I.hok e;obtain⟨u,hu,ru⟩:=RelO.some_of (v:=v) (o:=mA f) (by rw[<-l];exact r f);exact zpd I.kIn O (c.get f) c.hd n hu (ziT ru) (h u _ (I.tok _) ru)
theorem zhO {m:Str}{g:Addr}{pl:Sem Bool}{Q:Value×List Value->Shared->Prop}(I:Inv X pins σ H s) (e:H a=some (.ins C dx fs)) (c:Cls X.K C) (k:znl X.K C m g) (l:fs.lookup m=none)
  (h:Q (.ref g,[.ref a]) s):wpAny (model X.prog X.w) A (getMethod (.ref a) m pl) Q E s:=by
 obtain⟨mA,O,r,_,_,_⟩:=zjJ I.hok e;have hn:mA m=none:=RelO.none_of (by rw[<-l];exact r m);exact zn3 I.kIn O (c.get m) k.at_ k.fn hn h
theorem zlF {y:V}{u:Value}{Q:Unit->Shared->Prop}(I:Inv X pins σ H s) (e:H a=some (.ins C dx fs)) (c:Cls X.K C) (n:NoAttr X.K C f) (hl:fs.length<1000) (ry:RelV y u)
  (h:∀s',Inv X pins σ (upd H a (.ins C dx (zcf f y fs))) s'->Q () s'):wpAny (model X.prog X.w) A (setAttr (.ref a) f u) Q E s:=by
 obtain⟨mA,O,r,wi,_,ho⟩:=zjJ I.hok e;have hz:(fs.map (·.1)).length<=sizeLine:=by rw[List.length_map,sizeLine_eq];omega
 refine zpw I.kIn O c.sa c.po n.taker c.hd wi hz fun h' O' sb=>h _ ?_;have hd:∃o,h'.get? dx=some o:=let ⟨o,_,_,e',_⟩:=O'.ns;⟨o,e'⟩
 refine I.write (x:=a) (e:=dx) (by rw[e];exact True.intro) (.inr ho) (fun b q hb z=>(sb.2 b hb).trans z) hd ?_;refine⟨by rw[zd O.ne];exact ho,?_,O.ne,O'.obj,_,O'.ns,fun g=>?_,fun g hg=>?_⟩
 ·have:=zdK f y fs;omega
 ·show RelO ((zcf f y fs).lookup g) (if g=f then some u else mA g);rw[zd5];by_cases q:g=f
  ·rw[if_pos q,if_pos q];exact ry
  ·rw[if_neg q,if_neg q];exact r g
 ·by_cases q:g=f
  ·rw[q];exact(zcg f y fs).1
  ·refine(zcg f y fs).2 g (wi g fun z=>hg ?_);show(if g=f then some u else mA g)=none;rw[if_neg q];exact z
theorem Inv.made (I:Inv X pins σ H s):Inv X pins σ (upd (upd H s.heap.objs.size (.own (s.heap.objs.size+1))) (s.heap.objs.size+1) (.ins C s.heap.objs.size []))
  { s with heap:=(s.heap.push PySem.W.emptyDict).push (PySem.W.instObj C s.heap.objs.size) }:=by
 have e1:(s.heap.push PySem.W.emptyDict).get? s.heap.objs.size=some PySem.W.emptyDict:=Heap.get?_push_size s.heap rfl;have e2:((s.heap.push PySem.W.emptyDict).push (PySem.W.instObj C s.heap.objs.size)).get? (s.heap.objs.size+1)=some (PySem.W.instObj C s.heap.objs.size):=by
  have:=Heap.get?_push_size (s.heap.push PySem.W.emptyDict) (o:=PySem.W.instObj C s.heap.objs.size) rfl
  rwa [Heap.size_push] at this
 have e3:(s.heap.push PySem.W.emptyDict).Ns s.heap.objs.size (fun _=>none):=⟨PySem.W.emptyDict,#[],_,e1,rfl,(fun e he=>absurd he (by simp)),fun _=>rfl⟩
 have I1:=I.laid (a:=s.heap.objs.size) (o:=.own (s.heap.objs.size+1)) (h':=s.heap.push PySem.W.emptyDict) (t':=s.toks) (fun b u q=>Heap.get?_push_of_some _ q) (Nat.le_refl _) ⟨_,e1⟩;refine I1.laid (a:=s.heap.objs.size+1) (o:=.ins C s.heap.objs.size []) (t':=s.toks) (fun b u q=>Heap.get?_push_of_some _ q) (Nat.le_of_eq (Heap.size_push _ _)) ?_;have ne:s.heap.objs.size≠s.heap.objs.size+1:=Nat.ne_of_lt (Nat.lt_succ_self _);refine⟨by rw[zd ne,zc],Nat.zero_le _,ne,e2,fun _=>none,(Heap.Ns1.of_empty e3).at fun o q=>Heap.get?_push_of_some _ q,fun _=>True.intro,fun y hy=>absurd rfl hy⟩
theorem zmr {prog:Program}{w:World}{env:Env}{e:Expr}{f:Str}{pos:Pos}{s:Shared}{Q:Value->Shared->Prop}(hb:attributeBase e f env (eval e env)=eval e env)
  (h:wpAny (model prog w) A (eval e env) (fun o s₁=>wpAny (model prog w) A (getAttr o f true) Q E s₁) E s):wpAny (model prog w) A (eval (.Attribute e f pos) env) Q E s :=
 Attribute_any_ h (by rw[arm_eval_Attribute,hb])
end
def zcH (K:PySem.W.Frag) (ta:TE) (f:Str):TE:=fun σ H Q=>ta σ H fun x H1=>∃a C dx fs v,x=.ref a/\H1 a=some (.ins C dx fs)/\Cls K C/\NoAttr K C f/\fs.lookup f=some v/\Q v H1
def zrp (K:PySem.W.Frag) (ta tv:TE) (f:Str):TS:=fun D σ H=>tv σ H fun y H1=>ta σ H1 fun x H2=>∃a C dx fs,x=.ref a/\H2 a=some (.ins C dx fs)/\Cls K C/\NoAttr K C f/\fs.length<1000 /\
 D.nx σ (upd H2 a (.ins C dx (zcf f y fs)))
section
variable {X:Cx}{o e value:Expr}{f:Str}{pos pos' tpos:Pos}{ta tv:TE}
theorem zo (he:PE X e ta) (hb:attributeBase e f X.env (eval e X.env)=eval e X.env):PE X (.Attribute e f pos) (zcH X.K ta f):=by
 intro pins s σ H Q I h;refine zmr hb (thn (he pins s σ H _ I h) fun u s1 ⟨x,H1,I1,rx,a,C,dx,fs,v,ex,ea,c,n,l,q⟩=>?_);subst ex;obtain rfl:u=Value.ref a:=rx;exact zl4 I1 ea c n l fun u' s2 I2 ru=>⟨v,H1,I2,ru,q⟩
theorem yM (ha:PE X o ta) (hv:PE X value tv) (hs:swapsWith value (some (.Attribute o f pos')) pos.line X.env=pure false):PS X (.Assign [.Attribute o f pos'] value pos) (zrp X.K ta tv f):=by
 intro pins s σ H D I h;refine plainObj_wpAny_Assign_Attribute (thn (hv pins s σ H _ I h) fun u s1 ⟨y,H1,I1,ry,q⟩=>thn (ha pins s1 σ H1 _ I1 q) fun ov s2 ⟨x,H2,I2,rx,a,C,dx,fs,ex,ea,c,n,l,q2⟩=>?_) hs;subst ex;obtain rfl:ov=Value.ref a:=rx;exact zlF I2 ea c n l ry fun s3 I3=>⟨σ,_,I3,q2⟩
end
section
variable {X:Cx}{pins:List (Addr×Obj)}{σ:St}{H:Hp}{s:Shared}{A:Around}{E:Value->Shared->Prop}{Q:Value->Shared->Prop}{c:Value}{b:Bool}
inductive zhZ (K:PySem.W.Frag) (H:Hp):V->Value->Prop where
 |non:zhZ K H .non (.type "NoneType")
 |bl (x:Bool):zhZ K H (.bl x) (.type "bool")
 |int (i:Int):zhZ K H (.int i) (.type "int")
 |str (x:Str):zhZ K H (.str x) (.type "str")
 |flt (x:UInt64):zhZ K H (.flt x) (.type "float")
 |lst {a:Addr} {xs:List V} (e:H a=some (.lst xs)):zhZ K H (.ref a) (.type "list")
 |frz {a:Addr} {o:Obj} {xs:List V} (e:H a=some (.frz o (.lst xs))):zhZ K H (.ref a) (.type "list")
 |tup {a:Addr} {xs:List V} (e:H a=some (.tup xs)):zhZ K H (.ref a) (.type "tuple")
 |dK {a:Addr} {kvs:List (Key×V)} (e:H a=some (.dK kvs)):zhZ K H (.ref a) (.type "dict")
 |dT {a:Addr} {kvs:List (List Key×V)} (e:H a=some (.dT kvs)):zhZ K H (.ref a) (.type "dict")
 |ins {a C dx:Addr} {fs:List (Str×V)} (e:H a=some (.ins C dx fs)) (cl:Cls K C) (ha:PySem.W.findIn K (.ref C) "__class__" = some (some (.builtin "object.__class__")))
   (hn:PySem.W.specialIn K (.builtin "object.__class__") "__get__" = some (some (.builtin "getset_descriptor.__get__"))) (htk:PySem.W.takesIn K (.builtin "object.__class__")=some true)
   (hm:PySem.W.mroIn K C (.type "object")=some true):zhZ K H (.ref a) (.ref C)
end
end L2
namespace L2
open PySem PySem.Spec PyProof.Rows
structure Room (cm:Bool) (k:Nat) (A:Around):Prop where
 hd:cm=true->A.handled=none
 dp:A.depth+3*k+5<recursionLimit
 un:A.units+16*k+200<cLine
theorem Room.mono {cm:Bool}{j k:Nat}{A:Around}(r:Room cm k A) (h:j<=k):Room cm j A:=⟨r.hd,by have:=r.dp;omega,by have:=r.un;omega⟩
theorem Room.q {cm:Bool}{j k:Nat}{A:Around}(r:Room cm k A) (h:j<=k:=by decide):Room cm j A:=r.mono h
theorem Room.deeper {cm:Bool}{k:Nat}{A:Around}(r:Room cm (k+1) A) (env:Env):Room cm k (A.deeper env) :=
 ⟨r.hd,by have:=r.dp;show A.depth+1+3*k+5<_;omega,by have:=r.un;show A.units+3+16*k+200<_;omega⟩
theorem zlA {A:Around}{C:Addr}{us:List Value}{kw:List (Str×Value)}:(A.under (.builtin "type.__call__" ⟨.ref C::us,kw⟩)).depth=A.depth+1:=by
 first|rfl|simp[Around.under,Code.weight,Code.isCreation,Code.isGuard,Code.isCaller,Code.frames,Code.isFrame,guardIds]
theorem zlC {A:Around}{C:Addr}{us:List Value}{kw:List (Str×Value)}:(A.under (.builtin "type.__call__" ⟨.ref C::us,kw⟩)).units=A.units+1:=by
 first|rfl|simp[Around.under,Code.cUnits,Code.frames,Code.isFrame]
theorem Room.make {cm:Bool}{k:Nat}{A:Around}(r:Room cm (k+1) A) (C:Addr) (us:List Value) (kw:List (Str×Value)):Room cm k (A.under (.builtin "type.__call__" ⟨.ref C::us,kw⟩)) :=
 ⟨r.hd,by have:=r.dp;rw[zlA];omega,by have:=r.un;rw[zlC];omega⟩
theorem Room.depth {cm:Bool}{k:Nat}{A:Around}(r:Room cm k A):A.depth<recursionLimit:=by have:=r.dp;omega
theorem Room.units {cm:Bool}{k:Nat}{A:Around}(r:Room cm k A):A.units+64<cLine:=by have:=r.un;omega
theorem Room.units0 {cm:Bool}{k:Nat}{A:Around}(r:Room cm k A):A.units<cLine:=by have:=r.un;omega
def zlZ:TA:=fun _ H Q=>Q [] H
def zpS (ta:TE) (tr:TA):TA:=fun σ H Q=>ta σ H fun x H1=>tr σ H1 fun xs H2=>Q (x::xs) H2
section
variable {X:Cx}{e:Expr}{es:List Expr}{te:TE}{t:TA}{pos:Pos}
theorem ze:PA X [] zlZ:=fun _ _ _ _ H Q I h=>Calls.spliced_nil ⟨[],H,I,.nil,h⟩
theorem za (ha:PE X e te) (hr:PA X es t) (hs:starEach (e::es) X.env=(false,eval e X.env)::starEach es X.env:=by rfl):PA X (e::es) (zpS te t):=by
 intro pos pins s σ H Q I h;rw[hs];show wpAny _ _ (spliced ((false,eval e X.env)::backTo pos (starEach es X.env))) _ _ s;refine Calls.spliced_cons (thn (ha pins s σ H _ I h) fun u s1 ⟨x,H1,I1,r1,q1⟩=>?_);exact thn (hr pos pins s1 σ H1 _ I1 q1) fun us s2 ⟨xs,H2,I2,r2,q2⟩=>⟨x::xs,H2,I2,.cons r1 r2,q2⟩
def zrm (t:TA):TE:=fun σ H Q=>t σ H fun xs H1=>xs.length<=sizeLine/\∀p,H1 p=none->Q (.ref p) (upd H1 p (.tup xs))
def zq1 (t:TA):TE:=fun σ H Q=>t σ H fun xs H1=>xs.length<=sizeLine/\∀p,H1 p=none->Q (.ref p) (upd H1 p (.lst xs))
theorem zj3 {x1}(h:PA X es t):PE X (.Tuple es x1 pos) (zrm t):=by
 intro pins s σ H Q I hq;refine wpAny_Tuple_spliced (thn (h pos pins s σ H _ I hq) fun us s1 ⟨xs,H1,I1,r,z,q⟩=>⟨by rw[<-r.length];exact z,?_⟩);have hf:H1 s1.heap.objs.size=none:=I1.hok.fresh (Nat.le_refl _);refine⟨.ref s1.heap.objs.size,upd H1 s1.heap.objs.size (.tup xs),I1.laid (t':=s1.toks) (fun b u e=>Heap.get?_push_of_some _ e) (Nat.le_refl _) ?_,rfl,q _ hf⟩;exact⟨z,us,r,⟨_,Heap.get?_push_size _ rfl,rfl,_,rfl⟩⟩
theorem z7 (h:PA X es t):PE X (.List es pos) (zq1 t):=by
 intro pins s σ H Q I hq;refine wpAny_List_spliced (thn (h pos pins s σ H _ I hq) fun us s1 ⟨xs,H1,I1,r,z,q⟩=>⟨by rw[<-r.length];exact z,?_⟩);have hf:H1 s1.heap.objs.size=none:=I1.hok.fresh (Nat.le_refl _);refine⟨.ref s1.heap.objs.size,upd H1 s1.heap.objs.size (.lst xs),I1.laid (t':=s1.toks) (fun b u e=>Heap.get?_push_of_some _ e) (Nat.le_refl _) ?_,rfl,q _ hf⟩;exact⟨z,us,0,r,Heap.get?_push_size _ rfl⟩
end
abbrev Sp:=List V->Hp->VK->XK->Prop
abbrev CXT:=List Env->Hp->Shared->XK->Value->Shared->Prop
structure Env0 (P:Program) (w:World) (K:PySem.W.Frag) (mg:Str->Option Value) (base:Heap) (A:Around) (outer:List Env) (s:Shared) (H:Hp):Prop where
 frames:A.frames=some outer
 mod:Mod K mg base
 bs:∀b o,base.get? b=some o->s.heap.get? b=some o/\H b=none
 bsz:base.objs.size<=s.heap.objs.size
 funs:s.heap.FunFrames base outer
 frf:∀b∈frs outer,H b=none
 hok:HOk P w H s.heap
 bare:AllBare s.gens
def CE (outer:List Env) (P:Program) (w:World) (H:Hp) (s:Shared) (Q:VK) (u:Value) (s':Shared):Prop :=
 ∃v H',s'.os=s.os/\AllBare s'.gens/\Un (frs outer) [] H H' s.heap s'.heap/\HOk P w H' s'.heap/\RelV v u/\Q v H'
def CR (CX:CXT) (outer:List Env) (P:Program) (w:World) (H:Hp) (s:Shared) (Q:VK) (E:XK) (r:Result) (s':Shared):Prop :=
 match r with
 |.ok (.ret u)=>CE outer P w H s Q u s'
 |.ok _=>False
 |.error e=>CX outer H s E e s'
structure FnOk (P:Program) (w:World) (K:PySem.W.Frag) (mg:Str->Option Value) (base:Heap) (CX:CXT) (cm:Bool) (k:Nat) (f:Addr) (fd:FuncData) (ps:List Str) (sp:Sp):Prop where
 len:∀vs H Q E,sp vs H Q E->vs.length=ps.length
 run:∀(A:Around) (outer:List Env) (s:Shared) (H:Hp) (args:Args) (us:List Value) (vs:List V) (Q:VK) (E:XK),Room cm k A->Env0 P w K mg base A outer s H->BindsTo s fd args (ps.zip us)->Vals vs us->sp vs H Q E ->
  codeAny (model P w) A (.call (.ref f) args) (CR CX outer P w H s Q E) s
theorem FnOk.mono {cm:Bool}{P:Program}{w:World}{K:PySem.W.Frag}{mg:Str->Option Value}{base:Heap}{CX:CXT}{j k:Nat}{f:Addr}{fd:FuncData}{ps:List Str}{sp:Sp}(F:FnOk P w K mg base CX cm j f fd ps sp) (h:j<=k) :
  FnOk P w K mg base CX cm k f fd ps sp:=⟨F.len,fun A outer s H args us vs Q E hr=>F.run A outer s H args us vs Q E (hr.mono h)⟩
theorem Env0.make {P:Program}{w:World}{K:PySem.W.Frag}{mg:Str->Option Value}{base:Heap}{A:Around}{outer:List Env}{s:Shared}{H:Hp}(e:Env0 P w K mg base A outer s H) (C:Addr) (us:List Value) (kw:List (Str×Value)) :
  Env0 P w K mg base (A.under (.builtin "type.__call__" ⟨.ref C::us,kw⟩)) outer s H:=⟨by first|exact e.frames|(simpa[Around.under,Code.envs,Code.isFrame,pushEnvs] using e.frames),e.mod,e.bs,e.bsz,e.funs,e.frf,e.hok,e.bare⟩
section
variable {X:Cx}{pins:List (Addr×Obj)}{σ:St}{H:Hp}{s s':Shared}
theorem Inv.env0 (I:Inv X pins σ H s):Env0 X.prog X.w X.K X.mg X.base X.A X.stack s H :=
 ⟨I.ok.frames,I.ok.mod,I.bs,Nat.le_trans I.ok.bsz I.sz,I.stack,I.stkFree,I.hok,I.bare⟩
theorem Inv.after {Q:VK}{u:Value}(I:Inv X pins σ H s) (h:CE X.stack X.prog X.w H s Q u s'):EP X pins σ Q u s':=by
 obtain⟨v,H',os,bare,un,hok,r,q⟩:=h;obtain⟨hh,g,d,t,os'⟩:=s';obtain rfl:os'=s.os:=os;exact⟨v,H',I.call (h':=hh) (g':=g) (d':=d) (t':=t) (ch:=[]) un hok bare (fun b z=>absurd z (by simp)),r,q⟩
end
def zpU (sp:Sp) (dvs:List V) (E:St->XK) (t:TA):TE:=fun σ H Q=>t σ H fun vs H1=>sp (vs++dvs) H1 Q (E σ)
def zpY (C:Addr) (m:Str) (sp:Sp) (dvs:List V) (E:St->XK) (ta:TE) (t:TA):TE:=fun σ H Q=>ta σ H fun x H1=>∃a dx fs,x=.ref a/\H1 a=some (.ins C dx fs)/\fs.lookup m=none /\
 t σ H1 fun vs H2=>sp (x::(vs++dvs)) H2 Q (E σ)
def zpZ (C:Addr) (sp:Sp) (dvs:List V) (E:St->XK) (t:TA):TE:=fun σ H Q=>t σ H fun vs H1=>∀x dx,H1 x=none->H1 dx=none->dx≠x ->
 sp (.ref x::(vs++dvs)) (upd (upd H1 dx (.own x)) x (.ins C dx [])) (fun v H2=>v=.non/\Q (.ref x) H2) (E σ)
def Binds (K:PySem.W.Frag) (fd:FuncData) (ps:List Str) (ds:List Value):Prop :=
 ∀(s:Shared) (us:List Value),K.In s.heap->(us++ds).length=ps.length->BindsTo s fd ⟨us,[]⟩ (ps.zip (us++ds))
theorem Binds.all {K:PySem.W.Frag}{fd:FuncData}{ps:List Str}(h:∀us:List Value,us.length=ps.length->bindArgs fd ⟨us,[]⟩=pure (ps.zip us)):Binds K fd ps []:=fun s us _ hl=>by
 rw[List.append_nil] at hl ⊢;exact .of_eq (h us hl)
def zcF (CX:CXT) (X:Cx) (E:St->XK):Prop:=∀(pins:List (Addr×Obj)) (σ:St) (H:Hp) (s:Shared) (e:Value) (s':Shared),Inv X pins σ H s->CX X.stack H s (E σ) e s'->X.xe e s'
section
variable {X:Cx}{CX:CXT}{k:Nat}{f C:Addr}{fd:FuncData}{ps:List Str}{sp:Sp}{dvs:List V}{ds:List Value}{E:St->XK}{x m:Str}{p pos apos:Pos}{e o:Expr}{es:List Expr}{ta:TE}{t:TA}
theorem zj7 {cm:Bool}{pins:List (Addr×Obj)}{σ:St}{H:Hp}{s:Shared}{Q:VK}{us:List Value}{vs:List V}(F:FnOk X.prog X.w X.K X.mg X.base CX cm k f fd ps sp) (hr:Room cm k X.A) (hb:Binds X.K fd ps ds) (hd:Vals dvs ds) (hx:zcF CX X E)
  (I:Inv X pins σ H s) (r:Vals vs us) (h:sp (vs++dvs) H Q (E σ)):wpAny (model X.prog X.w) X.A (call (.ref f) us) (EP X pins σ Q) X.xe s:=by
 have r2:Vals (vs++dvs) (us++ds):=r.append hd;have hl:(us++ds).length=ps.length:=by rw[<-r2.length];exact F.len _ _ _ _ h
 refine wpAny_call (codeAny_mono (F.run X.A X.stack s H ⟨us,[]⟩ (us++ds) (vs++dvs) Q (E σ) hr I.env0 (hb s us I.kIn hl) r2 h) fun r s' hq=>?_);cases r with
 |error e=>exact hx pins σ H s e s' I hq
 |ok fl =>
  cases fl with
  |ret u=>exact I.after hq
  |next=>exact False.elim hq
  |brk=>exact False.elim hq
  |cont=>exact False.elim hq
theorem zD {cm:Bool}(F:FnOk X.prog X.w X.K X.mg X.base CX cm k f fd ps sp) (hr:Room cm k X.A) (hg:Gl X x) (hm:X.mg x=some (.ref f)) (hk:PySem.W.keepIn X.K (.ref f)=true) (hb:Binds X.K fd ps ds) (hd:Vals dvs ds) (hx:zcF CX X E)
  (ha:PA X (e::es) t) (hdb:(x == ("__debug__" : Str))=false:=by decide) (he:starEach (e::es) X.env=(false,eval e X.env)::starEach es X.env:=by rfl) (hpl:(backTo pos (starEach es X.env)).any (·.1)=false:=by rfl) :
  PE X (.Call (.Name x p) (e::es) [] pos) (zpU sp dvs E t):=by
 intro pins s σ H Q I h;refine wpAny_Call_Name_kw (zbI I hg hm ?_ hdb);refine PySem.W.callWith_K (h₀:=X.base) I.ok.mod.kin hk (thn (ha pos pins s σ H _ I h) fun us s1 ⟨vs,H1,I1,r,q⟩=>⟨I1.kIn,?_⟩) he hpl;exact zj7 F hr hb hd hx I1 r q
theorem ZG {cm:Bool}{pl:Sem Bool}(he:PE X o ta) (c:Cls X.K C) (hm:znl X.K C m f) (F:FnOk X.prog X.w X.K X.mg X.base CX cm k f fd ps sp) (hr:Room cm k X.A) (hb:Binds X.K fd ps ds) (hd:Vals dvs ds) (hx:zcF CX X E) (ha:PA X (e::es) t)
  (hst:starEach (e::es) X.env=(false,eval e X.env)::starEach es X.env:=by rfl) (hpl:(backTo pos (starEach es X.env)).any (·.1)=false:=by rfl)
  (ht:eval (.Call (.Attribute o m apos) (e::es) [] pos) X.env=(do
    let ov <-eval o X.env
    standAt apos.atName
    let (f,first) <-holding [ov] (getMethod ov m pl)
    callWith pos f first (backTo pos (starEach (e::es) X.env)) (backToKw pos (keywordEach [] X.env))):=by rfl) :
  PE X (.Call (.Attribute o m apos) (e::es) [] pos) (zpY C m sp dvs E ta t):=by
 intro pins s σ H Q I h;refine PySem.W.methodCall_KW (pl:=pl) (thn (he pins s σ H _ I h) fun u s1 ⟨x,H1,I1,rx,a,dx,fs,ex,ea,l,q⟩=>?_) ht;subst ex;obtain rfl:u=Value.ref a:=rx;refine zhO I1 ea c hm l ?_;refine PySem.W.callWith_K (first:=[.ref a]) (h₀:=X.base) I.ok.mod.kin hm.kp (thn (ha pos pins s1 σ H1 _ I1 q) fun us s2 ⟨vs,H2,I2,r,q2⟩=>⟨I2.kIn,?_⟩) hst hpl;exact zj7 (us:=.ref a::us) (vs:=.ref a::vs) F hr hb hd hx I2 (.cons rfl r) q2
theorem zco {cm:Bool}{pl:Sem Bool}(he:PE X o ta) (c:Cls X.K C) (hm:znl X.K C m f) (F:FnOk X.prog X.w X.K X.mg X.base CX cm k f fd ps sp) (hr:Room cm k X.A) (hb:Binds X.K fd ps ds) (hd:Vals dvs ds) (hx:zcF CX X E)
  (ht:eval (.Call (.Attribute o m apos) [] [] pos) X.env=(do
    let ov <-eval o X.env
    standAt apos.atName
    let (f,first) <-holding [ov] (getMethod ov m pl)
    callWith pos f first (backTo pos (starEach [] X.env)) (backToKw pos (keywordEach [] X.env))):=by rfl) :
  PE X (.Call (.Attribute o m apos) [] [] pos) (zpY C m sp dvs E ta zlZ):=by
 intro pins s σ H Q I h;refine PySem.W.methodCall_KW (pl:=pl) (thn (he pins s σ H _ I h) fun u s1 ⟨x,H1,I1,rx,a,dx,fs,ex,ea,l,q⟩=>?_) ht;subst ex;obtain rfl:u=Value.ref a:=rx;refine zhO I1 ea c hm l ?_;exact PySem.W.callWith_K0 (first:=[.ref a]) I1.kIn hm.kp (zj7 (us:=[.ref a]) (vs:=[.ref a]) F hr hb hd hx I1 (.cons rfl .nil) q)
structure Mk (K:PySem.W.Frag) (C f:Addr):Prop where
 makes:PySem.W.makesIn K C=true
 init:PySem.W.findIn K (.ref C) "__init__" = some (some (.ref f))
 fn:PySem.W.isFn K (.ref f)=true
 kp:PySem.W.keepIn K (.ref C)=true
theorem zkA {cm:Bool}{pins:List (Addr×Obj)}{σ:St}{H:Hp}{s:Shared}{Q:VK}{us:List Value}{vs:List V}(M:Mk X.K C f) (F:FnOk X.prog X.w X.K X.mg X.base CX cm k f fd ps sp) (hr:Room cm (k+1) X.A) (hb:Binds X.K fd ps ds) (hd:Vals dvs ds)
  (hx:zcF CX X E) (I:Inv X pins σ H s) (r:Vals vs us)
  (h:∀x dx,H x=none->H dx=none->dx≠x->sp (.ref x::(vs++dvs)) (upd (upd H dx (.own x)) x (.ins C dx [])) (fun v H2=>v=.non/\Q (.ref x) H2) (E σ)) :
  wpAny (model X.prog X.w) X.A (call (.ref C) us) (EP X pins σ Q) X.xe s:=by
 have hq:=h (s.heap.objs.size+1) s.heap.objs.size (I.hok.fresh (Nat.le_succ _)) (I.hok.fresh (Nat.le_refl _)) (Nat.ne_of_lt (Nat.lt_succ_self _));have I2:=Inv.made (C:=C) I;have r2:Vals (V.ref (s.heap.objs.size+1)::(vs++dvs)) (Value.ref (s.heap.objs.size+1)::(us++ds)):=.cons rfl (r.append hd);have hl:(Value.ref (s.heap.objs.size+1)::us++ds).length=ps.length:=by
  have e:=r2.length;rw[F.len _ _ _ _ hq] at e;exact e.symm
 refine wpAny_call (znN (f:=f) I.kIn M.makes M.init (beq_iff_eq.mp M.fn) (codeAny_mono (F.run _ X.stack _ _ ⟨Value.ref (s.heap.objs.size+1)::us,[]⟩ (Value.ref (s.heap.objs.size+1)::(us++ds)) _ _ (E σ) (hr.make C us [])
  (I2.env0.make C us []) (hb _ (Value.ref (s.heap.objs.size+1)::us) I2.kIn hl) r2 hq) fun r s' hq'=>?_))
 cases r with
 |error e=>exact hx pins σ _ _ e s' I2 hq'
 |ok fl =>
  cases fl with
  |ret u =>
   obtain⟨v,H',I3,rv,ev,q3⟩:=I2.after hq';subst ev;exact⟨rv,⟨V.ref (s.heap.objs.size+1),H',I3,rfl,q3⟩⟩
  |next=>exact False.elim hq'
  |brk=>exact False.elim hq'
  |cont=>exact False.elim hq'
theorem zg4 {cm:Bool}(M:Mk X.K C f) (F:FnOk X.prog X.w X.K X.mg X.base CX cm k f fd ps sp) (hr:Room cm (k+1) X.A) (hg:Gl X x) (hm:X.mg x=some (.ref C)) (hb:Binds X.K fd ps ds) (hd:Vals dvs ds) (hx:zcF CX X E)
  (ha:PA X (e::es) t) (hdb:(x == ("__debug__" : Str))=false:=by decide) (he:starEach (e::es) X.env=(false,eval e X.env)::starEach es X.env:=by rfl) (hpl:(backTo pos (starEach es X.env)).any (·.1)=false:=by rfl) :
  PE X (.Call (.Name x p) (e::es) [] pos) (zpZ C sp dvs E t):=by
 intro pins s σ H Q I h;refine wpAny_Call_Name_kw (zbI I hg hm ?_ hdb);refine PySem.W.callWith_K (h₀:=X.base) I.ok.mod.kin M.kp (thn (ha pos pins s σ H _ I h) fun us s1 ⟨vs,H1,I1,r,q⟩=>⟨I1.kIn,?_⟩) he hpl;exact zkA M F hr hb hd hx I1 r q
theorem zko {cm:Bool}(M:Mk X.K C f) (F:FnOk X.prog X.w X.K X.mg X.base CX cm k f fd ps sp) (hr:Room cm (k+1) X.A) (hg:Gl X x) (hm:X.mg x=some (.ref C)) (hb:Binds X.K fd ps ds) (hd:Vals dvs ds) (hx:zcF CX X E)
  (hdb:(x == ("__debug__" : Str))=false:=by decide):PE X (.Call (.Name x p) [] [] pos) (zpZ C sp dvs E zlZ):=by
 intro pins s σ H Q I h;refine wpAny_Call_Name_kw (zbI I hg hm ?_ hdb);exact PySem.W.callWith_K0 I.kIn M.kp (zkA (us:=[]) M F hr hb hd hx I .nil h)
end
section
variable {X:Cx}{CX:CXT}{k:Nat}{f C:Addr}{fd:FuncData}{ps ks:List Str}{sp:Sp}{E:St->XK}{x m:Str}{p pos apos kpos:Pos}{e o:Expr}{es:List Expr}{kws:List Keyword}{te ta:TE}{t tk:TA}{nm:Option Str}
structure zrB (K:PySem.W.Frag) (fd:FuncData) (ps ks:List Str) (g:List Value->List Value->List Value) (gV:List V->List V->List V):Prop where
 to:∀(s:Shared) (us ws:List Value),K.In s.heap->(g us ws).length=ps.length->BindsTo s fd ⟨us,ks.zip ws⟩ (ps.zip (g us ws))
 rel:∀{vs:List V} {us:List Value} {zs:List V} {ws:List Value},Vals vs us->Vals zs ws->Vals (gV vs zs) (g us ws)
variable {g:List Value->List Value->List Value}{gV:List V->List V->List V}
end
structure zt (N P:List Str) (sc:Scope):Prop where
 kind:sc.kind=.function
 co:sc.isCoroutine=false
 gen:sc.isGenerator=false
 nd:N.Nodup
 pre:N.take P.length=P
 par:∀x∈P,sc.names.lookup x=some .local\/sc.names.lookup x=some .cell
 nofree:∀y∈sc.names,y.2≠.free
theorem ziR {kindOf:Str->Option NameKind}{x:Str}:∀{binds:List (Str×Value)}{m:Str->Option Value},(∀v,(x,v)∉binds)->bindL kindOf binds m x=m x
 |[],_,_=>rfl
 |(n,v)::r,m,h=>by
  unfold bindL;rw[ziR fun w hw=>h w (List.mem_cons_of_mem _ hw)];split
  ·have:x≠n:=by rintro rfl;exact h v List.mem_cons_self
   simp[this]
  ·rfl
theorem ziY {kindOf:Str->Option NameKind}{x:Str}:∀{binds:List (Str×Value)}{m:Str->Option Value},(∀v,(x,v)∉binds)->bindC kindOf binds m x=m x
 |[],_,_=>rfl
 |(n,v)::r,m,h=>by
  unfold bindC;rw[ziY fun w hw=>h w (List.mem_cons_of_mem _ hw)];split
  ·rfl
  ·have:x≠n:=by rintro rfl;exact h v List.mem_cons_self
   simp[this]
theorem ziS {kindOf:Str->Option NameKind}{x:Str}{v:Value}:∀{P:List Str}{vs:List Value}{i:Nat}{m:Str->Option Value},P.Nodup->P[i]?=some x->vs[i]?=some v->kindOf x=some .local ->
  bindL kindOf (P.zip vs) m x=some v
 |[],_,_,_,_,h,_,_=>by simp at h
 |_::_,[],_,_,_,_,h,_=>by simp at h
 |p::P,w::vs,0,m,nd,h1,h2,hk=>by
  simp at h1 h2;subst h1;subst h2;show bindL kindOf ((p,w)::P.zip vs) m p=_;unfold bindL;rw[ziR fun v hv=>(List.nodup_cons.mp nd).1 (List.of_mem_zip hv).1,if_pos hk];simp
 |p::P,w::vs,i+1,m,nd,h1,h2,hk=>by
  show bindL kindOf ((p,w)::P.zip vs) m x=_;unfold bindL;exact ziS (i:=i) (List.nodup_cons.mp nd).2 (by simpa using h1) (by simpa using h2) hk
theorem zi9 {kindOf:Str->Option NameKind}{x:Str}{v:Value}:∀{P:List Str}{vs:List Value}{i:Nat}{m:Str->Option Value},P.Nodup->P[i]?=some x->vs[i]?=some v->kindOf x≠some .local ->
  bindC kindOf (P.zip vs) m x=some v
 |[],_,_,_,_,h,_,_=>by simp at h
 |_::_,[],_,_,_,_,h,_=>by simp at h
 |p::P,w::vs,0,m,nd,h1,h2,hk=>by
  simp at h1 h2;subst h1;subst h2;show bindC kindOf ((p,w)::P.zip vs) m p=_;unfold bindC;rw[ziY fun v hv=>(List.nodup_cons.mp nd).1 (List.of_mem_zip hv).1,if_neg hk];simp
 |p::P,w::vs,i+1,m,nd,h1,h2,hk=>by
  show bindC kindOf ((p,w)::P.zip vs) m x=_;unfold bindC;exact zi9 (i:=i) (List.nodup_cons.mp nd).2 (by simpa using h1) (by simpa using h2) hk
def start (N:List Str) (vs:List V):St:=vs.map some++List.replicate (N.length-vs.length) none
def zle (CX:CXT) (cm:Bool) (P:Program) (w:World) (K:PySem.W.Frag) (mg:Str->Option Value) (base:Heap) (N:List Str) (qual:Str) (scope:Scope) (f:Addr) (cd:Value) (A:Around) (outer:List Env) (s:Shared) (H:Hp) (E:XK):Cx where
 prog:=P
 w:=w
 K:=K
 mg:=mg
 base:=base
 A:=A.deeper (envOfC qual scope s.heap.objs.size f cd)
 N:=N
 s_0:=s
 H_0:=H
 env:=envOfC qual scope s.heap.objs.size f cd
 outer:=outer
 stack:=envOfC qual scope s.heap.objs.size f cd::outer
 ex:=[]
 calm:=cm
 fn:=fun _=>true
 pn:=[]
 xe:=fun e s'=>wpAny (model P w) (A.deeper (envOfC qual scope s.heap.objs.size f cd)) (leaving (envOfC qual scope s.heap.objs.size f cd) e) (fun _ s''=>CX outer H s E e s'') (fun e' s''=>CX outer H s E e' s'') s'
theorem zkk {sc:Scope}{n:Nat}{x:Str}(h:sc.names.lookup x=some .cell):∃c,(cellsFrom n sc.names []).lookup x=some c:=by
 have q:=PySem.W.cellsFrom_some sc.names n [] (.inl h);exact Option.isSome_iff_exists.mp q
theorem zmR {cm:Bool}{CX:CXT}{P:Program}{w:World}{K:PySem.W.Frag}{mg:Str->Option Value}{base:Heap}{N ps:List Str}{qual:Str}{scope:Scope}{f:Addr}{cd:Value}{A:Around}{outer:List Env}{s s1:Shared}{H:Hp}{E:XK}{us:List Value}{vs:List V}
  (S:zt N ps scope) (hd:cm=true->A.handled=none) (e0:Env0 P w K mg base A outer s H) (hl:vs.length=ps.length) (r:Vals vs us)
  (x:InCallC s s.heap.objs.size (bindL (envOfC qual scope s.heap.objs.size f cd).kindOf (ps.zip us) fun _=>none) (cellsFrom (s.heap.objs.size+1) scope.names []) (bindC (envOfC qual scope s.heap.objs.size f cd).kindOf (ps.zip us) fun _=>none) s1) :
  Inv (zle CX cm P w K mg base N qual scope f cd A outer s H E) [] (start N vs) H s1:=by
 have hpl:ps.length<=N.length:=by have:=congrArg List.length S.pre;rw[List.length_take] at this;omega
 obtain⟨h1,tk,rfl,hk⟩:=x.done;have noA:∀b:Addr,b∉(zle CX cm P w K mg base N qual scope f cd A outer s H E).ex:=fun b z=>absurd (show b∈([]:List Addr) from z) (by simp);refine⟨⟨e0.mod,S.kind,rfl,rfl,Nat.le_refl _,fun y z c h1 h2=>?_,fun y hy=>?_,fun y c _ h=>?_,hd,Around.frames_deeper e0.frames,.inr ⟨rfl,rfl⟩,fun b z=>absurd z (noA b),e0.bs,e0.bsz,fun b _ _=>noA b,fun b z=>absurd z (noA b),e0.funs,e0.frf⟩,
  rfl,e0.bare,Un.kept hk,⟨_,x.toInCall.ns,fun i y v h1 h2 h3=>?_⟩,fun y c h=>⟨_,x.cell y c h⟩,e0.hok.fresh (Nat.le_refl _),fun y c h=>?_,fun p hp=>absurd (show p∈([]:List (Addr×Obj)) from hp) (by simp),e0.hok.kept hk,?_⟩
 ·exact name_of_addr x.apart (PySem.mem_of_lookup h1) (PySem.mem_of_lookup h2)
 ·have hy:scope.names.lookup y=some .cell\/scope.names.lookup y=some .free:=hy;rcases hy with hy|hy
  ·exact zkk hy
  ·exact absurd rfl (S.nofree _ (PySem.mem_of_lookup hy))
 ·exact Nat.le_of_lt (x.above y c (PySem.mem_of_lookup h))
 ·have hi:i<vs.length:=by
   unfold start at h2;by_cases hi:i<vs.length
   ·exact hi
   ·rw[List.getElem?_append_right (by simpa using hi)] at h2;rw[List.getElem?_replicate] at h2;split at h2 <;> cases h2
  have ha:vs[i]?=some v:=by
   unfold start at h2;rw[List.getElem?_append_left (by simpa using hi),List.getElem?_map] at h2;cases e:vs[i]? with
   |none=>rw[e] at h2;cases h2
   |some a=>rw[e] at h2;cases h2;rfl
  obtain⟨u,hu,rv⟩:=r.get ha;have hp:ps[i]?=some y:=by
   rw[<-S.pre,List.getElem?_take_of_lt (by omega)];exact h1
  have ndP:ps.Nodup:=by rw[<-S.pre];exact S.nd.sublist (List.take_sublist _ _)
  refine⟨u,rv,?_⟩;rcases S.par y (List.mem_of_getElem? hp) with k|k
  ·exact .inl ⟨k,ziS ndP hp hu k⟩
  ·obtain⟨c,e⟩:=zkk (n:=s.heap.objs.size+1) k;refine .inr ⟨.inl k,c,e,?_⟩;have q:=x.cell y c e;rw[zi9 ndP hp hu (by show scope.names.lookup y≠_;rw[k];decide)] at q;exact q
 ·exact e0.hok.fresh (Nat.le_of_lt (x.above y c (PySem.mem_of_lookup h)))
 ·unfold start;show _=N.length;rw[List.length_append,List.length_map,List.length_replicate];omega
theorem zra {cm:Bool}{CX:CXT}{P:Program}{w:World}{K:PySem.W.Frag}{mg:Str->Option Value}{base:Heap}{k:Nat}{f:Addr}{name qual:Str}{params:Arguments}{body:List Stmt}{scope:Scope}{dV kV doc pm cdv ct oc:Value}{an od:Option Addr}
  {osl:Array (Option Value)} {N ps:List Str} {sp:Sp} (lk:K.lookup f=some ⟨oc,od,.func (PySem.W.fnOf name qual params body scope dV kV doc pm an cdv ct),osl⟩) (hcd:PySem.W.codeIn K cdv qual=true) (S:zt N ps scope)
  (len:∀vs H Q E,sp vs H Q E->vs.length=ps.length)
  (hbody:∀(A:Around) (outer:List Env) (s:Shared) (H:Hp) (vs:List V) (Q:VK) (E:XK),Room cm k (A.deeper (envOfC qual scope s.heap.objs.size f cdv))->sp vs H Q E ->
    ∃t,PSs (zle CX cm P w K mg base N qual scope f cdv A outer s H E) body t/\t { nx:=fun _ H'=>Q .non H',rt:=Q } (start N vs) H) :
  FnOk P w K mg base CX cm (k+1) f (PySem.W.fnOf name qual params body scope dV kV doc pm an cdv ct) ps sp:=by
 refine⟨len,fun A outer s H args us vs Q E hr e0 hb r hsp=>?_⟩;have hl:=len _ _ _ _ hsp;have KX:K.In s.heap:=e0.mod.kin.keeps fun b o e=>(e0.bs b o e).1;have lim:s.heap.NoLimit:=e0.mod.nolimit.keeps fun b o e=>(e0.bs b o e).1;have hkind:∀y∈ps.zip us,scope.names.lookup y.1=some .local\/(scope.names.lookup y.1=some .cell/\((cellsFrom (s.heap.objs.size+1) scope.names []).lookup y.1).isSome=true):=fun⟨n,v⟩ hy=>by
  rcases S.par n (List.of_mem_zip hy).1 with q|q
  ·exact .inl q
  ·exact .inr ⟨q,PySem.W.cellsFrom_some _ _ _ (.inl q)⟩
 refine codeAny_call_function hr.depth (KX _ _ lk) rfl S.co S.gen rfl (PySem.W.codeRec_of KX hcd) (hb _ _ _ _ ?_);refine wpAny_newFunctionEnv_cells S.kind hkind fun env he s1 x=>?_;subst he;refine⟨lim.keeps x.toInCall.keep,codeAny_func ?_⟩;obtain⟨t,ht,hq⟩:=hbody A outer s H vs Q E (hr.deeper _) hsp;have I:Inv (zle CX cm P w K mg base N qual scope f cdv A outer s H E) [] (start N vs) H s1:=zmR S hr.hd e0 hl r x;refine wpAny_mono (ht [] s1 (start N vs) H _ I hq) (fun fl s' hs=>?_) fun e s' hs=>hs;have fin:∀{σ':St} {H':Hp} {v:V} {u:Value},Inv (zle CX cm P w K mg base N qual scope f cdv A outer s H E) [] σ' H' s'->RelV v u->Q v H'->CE outer P w H s Q u s' :=
  fun{σ' H' v u} J rv q=>⟨v,H',J.os,J.bare,J.base,J.hok,rv,q⟩
 cases fl with
 |ret u =>
  obtain⟨v,σ',H',J,rv,q⟩:=hs;exact fin J rv q
 |next =>
  obtain⟨σ',H',J,q⟩:=hs;exact fin (v:=V.non) (u:=Value.none) J rfl q
 |brk =>
  obtain⟨_,_,_,q⟩:=hs;exact False.elim q
 |cont =>
  obtain⟨_,_,_,q⟩:=hs;exact False.elim q
end L2
namespace L2
open PySem PySem.Spec PyProof.Rows
section
variable {X:Cx}{x:Str}{p pos:Pos}{e:Expr}{es:List Expr}{t:TA}{id T:String}{r:List V->Hp->VK->Prop}
def tCB (r:List V->Hp->VK->Prop) (t:TA):TE:=fun σ H Q=>t σ H fun vs H1=>r vs H1 Q
theorem zK (hc:zgD X (.builtin id) r) (hg:Gl X x) (hm:X.mg x=none) (hv:bootBuiltins x=some (.builtin id)) (ha:PA X (e::es) t) (hn:x ≠ "__name__" := by decide) (hdb:(x == ("__debug__" : Str))=false:=by decide)
  (he:starEach (e::es) X.env=(false,eval e X.env)::starEach es X.env:=by rfl) (hpl:(backTo pos (starEach es X.env)).any (·.1)=false:=by rfl):PE X (.Call (.Name x p) (e::es) [] pos) (tCB r t):=by
 intro pins s σ H Q I h;refine wpAny_Call_Name_kw (zd2 I hg hm hv ?_ hn hdb);exact PyProof.Rows.callWith_builtin1 (thn (ha pos pins s σ H _ I h) fun us s1 ⟨vs,H1,I1,r1,q1⟩=>hc pins s1 σ H1 vs us Q I1 r1 q1) he hpl
end
end L2
namespace HT
open PySem PyProof.Rows
theorem zk4 (A:Around) (s:Shared) (a:Int) (t:Tok) (c:Int) (u:Tok):∃e,SeqAt.EqAt A s (.int a t) (.int c u) e/\(e=true↔a=c) :=
 ⟨(a == c),SeqAt.EqAt.int_int a t c u,by simp⟩
section
open PySem.SeqAt
open PySem.AutoSeq1 (wpAny_loadPart')
open PySem.MeetsSeq PySem.MeetsSeq2 PySem.MeetsSeq3
end
section
variable {prog:Program}{w:World}{A:Around}{E:Value->Shared->Prop}{s:Shared}
def sIx (n d:Nat):Option Int->Nat
 |none=>d
 |some v=>if v<0 then(v+(n:Int)).toNat else min v.toNat n
theorem sIx_nat (n d k:Nat):sIx n d (some (k:Int))=min k n:=by
 show(if (k:Int)<0 then((k:Int)+(n:Int)).toNat else min (k:Int).toNat n)=min k n;rw[if_neg (by omega),Int.toNat_natCast]
end
end HT
namespace L2
open PySem PySem.Spec PyProof.Rows
abbrev TO:=St->Hp->(Option Int->Hp->Prop)->Prop
def PO (X:Cx) (e:Option Expr) (t:TO):Prop :=
 ∀(pins:List (Addr×Obj)) (s:Shared) (σ:St) (H:Hp) (Q:Option Int->Hp->Prop),Inv X pins σ H s->t σ H Q ->
  wpAny (model X.prog X.w) X.A (evalPart e X.env) (fun u s'=>∃o H',Inv X pins σ H' s'/\IsPart u o/\Q o H') X.xe s
def zpc:TO:=fun _ H Q=>Q none H
def zq3 (t:TE):TO:=fun σ H Q=>t σ H fun x H1=>∃i,x=.int i/\Q (some i) H1
theorem zcM {ns:List Int}:∀{us:List Value},Vals (ns.map V.int) us->IntsAre us ns:=by
 induction ns with
 |nil=>intro us r;rw[List.map_nil] at r;cases r;exact .nil
 |cons n ns ih =>
  intro us r;rw[List.map_cons] at r;cases r with
  |cons r1 r2 =>
   obtain⟨t,e⟩:=r1;subst e;exact .cons n t (ih r2)
section
variable {X:Cx}{e:Expr}{te:TE}{lo hi:Option Expr}{tl th:TO}{pos p2:Pos}
theorem zkc:PO X none zpc:=by
 intro pins s σ H Q I h;rw[evalPart_none];exact wpAny_pure ⟨none,H,I,.none,h⟩
theorem zcW (h:PE X e te):PO X (some e) (zq3 te):=by
 intro pins s σ H Q I hw;rw[evalPart_some];refine thn (h pins s σ H _ I hw) fun u s1 ⟨x,H1,I1,r1,q1⟩=>?_;obtain⟨i,rfl,q⟩:=q1;obtain⟨t,rfl⟩:=r1;exact⟨some i,H1,I1,.int i t,q⟩
def SlR (X:Cx) (r:V->Option Int->Option Int->Hp->VK->Prop):Prop :=
 ∀(pins:List (Addr×Obj)) (s:Shared) (σ:St) (H:Hp) (x:V) (v vl vu:Value) (lo hi:Option Int) (sl:Addr) (Q:VK),Inv X pins σ H s->RelV x v->s.heap.IsSliceOf sl vl vu .none->IsPart vl lo->IsPart vu hi->r x lo hi H Q ->
  ∃T id,typeLookup (.type T) "__getitem__" = pure (some (.builtin id))/\s.TypeIs v T/\wpAny (model X.prog X.w) X.A (getItem v (.ref sl)) (EP X pins σ Q) X.xe s
def tSl (r:V->Option Int->Option Int->Hp->VK->Prop) (te:TE) (tl th:TO):TE:=fun σ H Q=>te σ H fun x H1=>tl σ H1 fun l H2=>th σ H2 fun u H3=>r x l u H3 Q
theorem zdE {r:V->Option Int->Option Int->Hp->VK->Prop}(hr:SlR X r) (he:PE X e te) (hl:PO X lo tl) (hu:PO X hi th):PE X (.Subscript e (.Slice lo hi none p2) pos) (tSl r te tl th):=by
 intro pins s σ H Q I h;refine Subscript_ (thn (he pins s σ H _ I h) fun v s1 ⟨x,H1,I1,r1,q1⟩=>?_);refine wpAny_Slice (thn (hl pins s1 σ H1 _ I1 q1) fun vl s2 ⟨l,H2,I2,pl,q2⟩=>thn (hu pins s2 σ H2 _ I2 q2) fun vu s3 ⟨u,H3,I3,pu,q3⟩=>?_);rw[evalPart_none];refine wpAny_pure ?_;have I4:Inv X pins σ H3 { s3 with heap:=s3.heap.push { cls:=.type "slice",data:=.fields #[vl,vu,.none] } }:=I3.kept (t':=s3.toks) fun b ob q=>Heap.get?_push_of_some _ q;obtain⟨T,id,hT,ht,hg⟩:=hr pins { s3 with heap:=s3.heap.push { cls:=.type "slice",data:=.fields #[vl,vu,.none] } } σ H3 x v vl vu l u s3.heap.objs.size Q I4 r1 (Heap.IsSliceOf.new ..) pl pu q3;show wpAny (model X.prog X.w) X.A (subscriptTail e (.Slice lo hi none p2) v (.ref s3.heap.objs.size)) (EP X pins σ Q) X.xe { s3 with heap:=s3.heap.push { cls:=.type "slice",data:=.fields #[vl,vu,.none] } };exact tail_any (ops:=[.ref s3.heap.objs.size,v]) ht hT hg (by with_unfolding_all rfl)
def zfU (xs:List V) (lo hi:Option Int):List V:=(xs.drop (HT.sIx xs.length 0 lo)).take (HT.sIx xs.length xs.length hi-HT.sIx xs.length 0 lo)
theorem zkD (xs:List V) (lo hi:Option Int):(zfU xs lo hi).length<=xs.length:=by
 unfold zfU;rw[List.length_take,List.length_drop];omega
end
end L2
namespace L2
open PySem PySem.Spec PyProof.Rows
def ixN (n:Nat) (i:Int):Option Nat:=if 0<=i then(if i<n then some i.toNat else none) else if -(n:Int)<=i then some (i+n).toNat else none
def atI {α:Type}(xs:List α) (i:Int):Option α:=(ixN xs.length i).bind fun j=>xs[j]?
theorem zpB {n:Nat}{i:Int}{j:Nat}(h:ixN n i=some j):seqIndex? i n=some j/\j<n/\-(n:Int)<=i/\i<n:=by
 unfold ixN at h;by_cases h0:0<=i
 ·rw[if_pos h0] at h;by_cases h1:i<n
  ·rw[if_pos h1] at h;have e:i.toNat=j:=Option.some.inj h;exact⟨by rw[seqIndex_of h0 h1,e],by omega,by omega,h1⟩
  ·rw[if_neg h1] at h;cases h
 ·rw[if_neg h0] at h;by_cases h1:-(n:Int)<=i
  ·rw[if_pos h1] at h;have e:(i+n).toNat=j:=Option.some.inj h;exact⟨by rw[seqIndex_neg (by omega) h1,e],by omega,h1,by omega⟩
  ·rw[if_neg h1] at h;cases h
theorem zmH {α:Type}{xs:List α}{i:Int}{v:α}(h:atI xs i=some v):∃j,seqIndex? i xs.length=some j/\xs[j]?=some v/\j<xs.length/\-(xs.length:Int)<=i/\i<xs.length:=by
 unfold atI at h;cases e:ixN xs.length i with
 |none=>rw[e] at h;cases h
 |some j =>
  rw[e] at h;obtain⟨h1,h2,h3,h4⟩:=zpB e;exact⟨j,h1,h,h2,h3,h4⟩
theorem zE {α:Type}{xs:List α}{j:Nat}{v:α}(h:xs[j]?=some v):atI xs (j:Int)=some v:=by
 have hj:j<xs.length:=(List.getElem?_eq_some_iff.mp h).1;have e:ixN xs.length (j:Int)=some j:=by
  unfold ixN;rw[if_pos (by omega),if_pos (by omega)];simp
 unfold atI;rw[e];exact h
theorem zbu {α:Type}(xs:List α) (v:α):atI (xs++[v]) (-1)=some v:=by
 have hl:(xs++[v]).length=xs.length+1:=by simp
 have e:ixN (xs++[v]).length (-1)=some xs.length:=by
  unfold ixN;rw[hl,if_neg (by decide),if_pos (by omega)];congr 1;omega
 unfold atI;rw[e];show(xs++[v])[xs.length]?=some v;simp
def zpu (b:Expr):Prop:=∀o i,subscripted b false o i=operate [o,i] (getItem o i)
def IxR (X:Cx) (r:R2):Prop :=
 ∀(value slice:Expr) (pins:List (Addr×Obj)) (s:Shared) (σ:St) (H:Hp) (x y:V) (v u:Value) (Q:VK),Inv X pins σ H s->RelV x v->RelV y u->r x y H Q ->
  subscripted slice false v u=operate [v,u] (getItem v u)->wpAny (model X.prog X.w) X.A (subscriptTail value slice v u) (EP X pins σ Q) X.xe s
def MtR (X:Cx) (id:String) (r:V->List V->Hp->VK->Prop):Prop :=
 ∀(pins:List (Addr×Obj)) (s:Shared) (σ:St) (H:Hp) (x:V) (xs:List V) (v:Value) (us:List Value) (Q:VK),Inv X pins σ H s->RelV x v->Vals xs us->r x xs H Q ->
  wpAny (model X.prog X.w) X.A (call (.builtin id) (v::us)) (EP X pins σ Q) X.xe s
section
variable {X:Cx}{a b:Expr}{ta tb:TE}{pos:Pos}
theorem zS {r:R2}(hr:IxR X r) (ha:PE X a ta) (hb:PE X b tb) (hs:zpu b):PE X (.Subscript a b pos) (tOp r ta tb):=by
 intro pins s σ H Q I h;exact Subscript_ (zqG ha hb I h fun v u s2 x y H2 I2 rx ry q=>hr a b pins s2 σ H2 x y v u Q I2 rx ry q (hs _ _))
def zqY (K:PySem.W.Frag):R2:=fun x y H Q=>∃p xs i v,x=.ref p/\y=.int i/\SqL K H p xs/\atI xs i=some v/\Q v H
def zq7 (K:PySem.W.Frag):R2:=fun x y H Q=>∃p xs i v,x=.ref p/\y=.int i/\SqT K H p xs/\atI xs i=some v/\Q v H
theorem zN:IxR X (zqY X.K):=by
 intro value slice pins s σ H x y v u Q I rx ry h hs;obtain⟨p,xs,i,z,rfl,rfl,hq,he,q⟩:=h;cases rx;obtain⟨t,rfl⟩:=ry;obtain⟨its,r,pl,hz⟩:=I.list hq;obtain⟨j,h1,h2,h3,h4,h5⟩:=zmH he;obtain⟨w,ew,rw'⟩:=r.get h2;have hl:=r.length;have hn:=zjl;have fin:EP X pins σ Q w s:=⟨z,H,I,rw',q⟩
 by_cases h0:0<=i
 ·have hj:i.toNat=j:=by
   rw[seqIndex_of h0 h5] at h1;exact Option.some.inj h1
  exact item_listR pl.isList h0 (by omega) (by rw[hj];simpa using ew) fin hs
 ·have hj:(i+(its.toArray.size:Int)).toNat=j:=by
   rw[seqIndex_neg (by omega) h4] at h1;rw[List.size_toArray,<-hl];exact Option.some.inj h1
  exact subscriptTail_builtinR (x:=w) pl.isList.typeIs slot_list_getitem.lookup
   (wpAny_getItem_list_neg (Q:=fun r s'=>r=w/\EP X pins σ Q r s') pl.isList (by omega) (by rw[List.size_toArray] <;> omega) (by omega) (by rw[hj];simpa using ew) ⟨rfl,fin⟩) hs
theorem Z0:IxR X (zq7 X.K):=by
 intro value slice pins s σ H x y v u Q I rx ry h hs;obtain⟨p,xs,i,z,rfl,rfl,hq,he,q⟩:=h;cases rx;obtain⟨t,rfl⟩:=ry;obtain⟨its,r,pl,hz⟩:=I.tuple hq;obtain⟨j,h1,h2,h3,h4,h5⟩:=zmH he;obtain⟨w,ew,rw'⟩:=r.get h2;have hl:=r.length;have hn:=zjl;have fin:EP X pins σ Q w s:=⟨z,H,I,rw',q⟩
 exact subscriptTail_builtinR (x:=w) pl.typeIs slot_tuple_getitem.lookup
  (getItem_tuple (j:=j) (Q:=fun r s'=>r=w/\EP X pins σ Q r s') pl (by omega) (by omega) (by rw[List.size_toArray,<-hl];exact h1) (by simpa using ew) ⟨rfl,fin⟩) hs
theorem zjo (lo hi:Option Int) (n:Nat):(sliceBounds lo hi none n).1=((HT.sIx n 0 lo:Nat):Int)/\(sliceBounds lo hi none n).2.1=((HT.sIx n n hi:Nat):Int)/\(sliceBounds lo hi none n).2.2=1:=by
 refine⟨?_,?_,rfl⟩
 ·cases lo with
  |none=>simp[sliceBounds,HT.sIx]
  |some i =>
   simp only[sliceBounds,HT.sIx,Option.getD_none,show(1:Int) > 0 by decide,if_true];by_cases h:i<0
   ·simp only[h,if_true] <;> omega
   ·simp only[h,if_false] <;> omega
 ·cases hi with
  |none=>simp[sliceBounds,HT.sIx]
  |some i =>
   simp only[sliceBounds,HT.sIx,Option.getD_none,show(1:Int) > 0 by decide,if_true];by_cases h:i<0
   ·simp only[h,if_true] <;> omega
   ·simp only[h,if_false] <;> omega
theorem zin (its:List Value) (lo hi:Option Int):slicePick its.toArray lo hi none=((its.drop (HT.sIx its.length 0 lo)).take (HT.sIx its.length its.length hi-HT.sIx its.length 0 lo)).toArray:=by
 obtain⟨h1,h2,h3⟩:=zjo lo hi its.toArray.size;unfold slicePick;rw[h1,h2,h3];simp only[sliceRange_one,pick_run,List.size_toArray] <;> rfl
def zro (K:PySem.W.Frag):V->Option Int->Option Int->Hp->VK->Prop:=fun x lo hi H Q=>∃a xs,x=.ref a/\SqL K H a xs/\∀p,H p=none->Q (.ref p) (upd H p (.lst (zfU xs lo hi)))
theorem zfB:SlR X (zro X.K):=by
 intro pins s σ H x v vl vu lo hi sl Q I rx hs pl pu h;obtain⟨a,xs,rfl,hx,q⟩:=h;cases rx;obtain⟨its,r,ht,hz⟩:=I.list hx;have hlen:=r.length;refine⟨"list",_,slot_list_getitem.lookup,ht.isList.typeIs,?_⟩;refine wpAny_getItem_list_slice ht.isList hs pl pu .none (by simp) ?_ (by rw[List.size_toArray] <;> omega);rw[zin,<-hlen];refine⟨.ref s.heap.objs.size,_,I.laid (t':=s.toks) (o:=.lst (zfU xs lo hi)) (fun b ob q=>Heap.get?_push_of_some _ q) (Nat.le_refl _) ?_,rfl,q _ (I.hok.fresh (Nat.le_refl _))⟩;exact⟨Nat.le_trans (zkD xs lo hi) hz,_,0,(r.drop (HT.sIx xs.length 0 lo)).take (HT.sIx xs.length xs.length hi-HT.sIx xs.length 0 lo),Heap.get?_push_size _ rfl⟩
theorem zG:zgD X (.builtin "len") (fun xs H Q=>∃p ys,xs=[.ref p]/\(SqL X.K H p ys\/SqT X.K H p ys)/\Q (.int ys.length) H):=by
 intro pins s σ H xs us Q I r h;obtain⟨p,ys,rfl,hq,q⟩:=h;obtain⟨u,rfl,rx⟩:=zoe r;cases rx;have hn:=zjl;rcases hq with hq|hq
 ·obtain⟨its,r',pl,hz⟩:=I.list hq;have hlen:=r'.length;exact Calls.call_len_list pl.isList (by simp only[List.size_toArray] <;> omega) ⟨.int ys.length,H,I.tok _,⟨s.toks+1,by rw[List.size_toArray,hlen]⟩,q⟩
 ·obtain⟨its,r',pl,hz⟩:=I.tuple hq;have hlen:=r'.length;exact len_tuple pl (by simp only[List.size_toArray] <;> omega) ⟨.int ys.length,H,I.tok _,⟨s.toks+1,by rw[List.size_toArray,hlen]⟩,q⟩
theorem zjQ:zgD X (.builtin "len") (fun xs H Q=>∃z,xs=[.str z]/\z.length<=sizeLine/\Q (.int z.length) H):=by
 intro pins s σ H xs us Q I r h;obtain⟨z,rfl,hz,q⟩:=h;obtain⟨u,rfl,t,rfl⟩:=zoe r;have hn:=zjl;exact len_str (by omega) ⟨.int z.length,H,I.tok _,⟨_,rfl⟩,q⟩
def tyV (K:PySem.W.Frag) (T:String) (x:V) (H:Hp):Prop:=match x with
 |.str _=>T = "str"
 |.int _=>T = "int"
 |.ref p=>(T = "list" /\ ∃xs,SqL K H p xs)\/(T = "tuple" /\ ∃o,K.lookup p=some o/\o.cls=.type "tuple" /\ o.dict=none) \/
   (T = "dict" /\ ((∃kvs,H p=some (.dK kvs))\/∃kvs,H p=some (.dT kvs)))\/(T = "set" /\ ∃S n,H p=some (.set S n))
 |_=>False
theorem zqD {pins:List (Addr×Obj)}{σ:St}{H:Hp}{s:Shared}{T:String}{x:V}{v:Value}(I:Inv X pins σ H s) (r:RelV x v) (ty:tyV X.K T x H) :
  s.TypeIs v T/\∀a,v=.ref a->∃ob,s.heap.get? a=some ob/\ob.dict=none:=by
 cases x with
 |str z =>
  obtain⟨t,rfl⟩:=r;cases (show T = "str" from ty);exact⟨typeIs_str s z t,fun _ e=>nomatch e⟩
 |int i =>
  obtain⟨t,rfl⟩:=r;cases (show T = "int" from ty);exact⟨typeIs_int s i t,fun _ e=>nomatch e⟩
 |ref p =>
  cases r;rcases ty with⟨rfl,xs,hq⟩|⟨rfl,o,hk,hc,hd⟩|⟨rfl,hk⟩|⟨rfl,S,n,hk⟩
  ·obtain⟨its,_,pl,_⟩:=I.list hq;refine⟨pl.isList.typeIs,fun a e=>?_⟩;cases e;obtain⟨o,n,e,c,hd,_⟩:=pl;exact⟨o,e,hd⟩
  ·refine⟨⟨o,I.kIn p o hk,hc⟩,fun a e=>?_⟩;cases e;exact⟨o,I.kIn _ o hk,hd⟩
  ·have z:∃o,s.heap.get? p=some o/\o.ExactDict:=by
    rcases hk with⟨kvs,hk⟩|⟨kvs,hk⟩
    ·obtain⟨_,_,_,_,o,_,_,e,ex,_⟩:=I.hok p _ hk;exact⟨o,e,ex⟩
    ·obtain⟨_,_,_,_,o,_,_,e,ex,_⟩:=I.hok p _ hk;exact⟨o,e,ex⟩
   obtain⟨o,e,ex⟩:=z;refine⟨⟨o,e,ex.1⟩,fun a e2=>?_⟩;cases e2;exact⟨o,e,ex.2.1⟩
  ·obtain⟨o,_,_,_,e,ex,_⟩:=I.hok p _ hk;refine⟨⟨o,e,ex.1⟩,fun a e2=>?_⟩;cases e2;exact⟨o,e,ex.2.1⟩
 |_=>exact False.elim ty
def tBM (K:PySem.W.Frag) (T:String) (r:V->List V->Hp->VK->Prop) (to:TE) (t:TA):TE:=fun σ H Q=>to σ H fun x H1=>tyV K T x H1/\t σ H1 fun xs H2=>r x xs H2 Q
variable {o e:Expr}{es:List Expr}{to:TE}{t:TA}{name:Str}{apos cpos:Pos}{T id:String}{r:V->List V->Hp->VK->Prop}
theorem zct (pa:PlainAttrs T) (slot:Slot T name id) (hty:typeOf (.builtin id)=pure (.type "method_descriptor")) (hm:MtR X id r) (ho:PE X o to) (ha:PA X (e::es) t)
  (hbase:attributeBase o name X.env (eval o X.env)=eval o X.env:=by rfl)
  (hfew:((backTo cpos (starEach (e::es) X.env)).all (fun x=>!x.1)&&(backToKw cpos (keywordEach [] X.env)).all (fun x=>x.1.isSome)
    && decide ((e::es).length+([]:List Keyword).length+(if ([]:List Keyword).isEmpty then 0 else 1)<30))=true:=by rfl)
  (hline:(apos.endLine == cpos.line)=true:=by rfl) (hs:starEach (e::es) X.env=(false,eval e X.env)::starEach es X.env:=by rfl) (hplain:(backTo cpos (starEach es X.env)).any (·.1)=false:=by rfl) :
  PE X (.Call (.Attribute o name apos) (e::es) [] cpos) (tBM X.K T r to t):=by
 intro pins s σ H Q I h;refine wpAny_Call_method_late hbase hfew hline rfl (thn (ho pins s σ H _ I h) fun v s1 ⟨x,H1,I1,r1,ty,q1⟩=>?_);obtain⟨h1,h2⟩:=zqD I1 r1 ty;refine⟨T,id,pa,slot,hty,h1,h2,?_⟩;have hA:=ha cpos pins s1 σ H1 _ I1 q1;rw[hs] at hA ⊢;refine Calls.callWith_builtin (by show(false||(backTo cpos (starEach es X.env)).any (·.1))=false;rw[hplain] <;> rfl) (Calls.evalArgs_plain ?_);exact thn hA fun us s2 ⟨vs,H2,I2,r2,q2⟩=>hm pins s2 σ H2 x vs v us Q I2 r1 r2 q2
end
end L2
namespace L2
open PySem PySem.Spec PyProof.Rows
def MtM (X:Cx) (id:String) (r:V->List V->Hp->VK->Prop):Prop :=
 ∀(pins:List (Addr×Obj)) (s:Shared) (σ:St) (H:Hp) (x:V) (xs:List V) (v:Value) (us:List Value) (Q:VK),Inv X pins σ H s->RelV x v->Vals xs us->r x xs H Q ->
  wpAny (model X.prog X.w) X.A (call (.builtin id) (v::us)) (EP X pins σ Q) X.xe s
theorem Vals.one:∀{x:V}{us:List Value},Vals [x] us->∃u,us=[u]/\RelV x u
 |_,_,.cons r .nil=>⟨_,rfl,r⟩
section
variable {X:Cx}{pins:List (Addr×Obj)}{σ:St}{H:Hp}{s:Shared}{l b:Addr}{xs ys zs:List V}
theorem Inv.lset {its its':List Value}{n:Nat}{f:Array Value->Array Value}{t':Nat}(I:Inv X pins σ H s) (hH:H l=some (.lst xs))
  (e:s.heap.get? l=some { cls:=.type "list",data:=.seq its.toArray n }) (hf:f its.toArray=its'.toArray) (hv:Vals ys its') (hz:ys.length<=sizeLine) :
  Inv X pins σ (upd H l (.lst ys)) { s with heap:=s.heap.update l (Obj.mapSeq f),toks:=t' }:=by
 have q:=PySem.IsL.update e f;rw[hf] at q;refine I.write (x:=l) (e:=l) (by rw[hH];exact trivial) (.inl rfl) (fun b' u hb hu=>(Heap.get?_update_other s.heap (Obj.mapSeq f) (Ne.symm hb)).trans hu) ⟨_,q⟩ ?_;exact⟨hz,its',_,hv,q⟩
theorem Inv.lnew {its:List Value}{t':Nat}(I:Inv X pins σ H s) (hv:Vals ys its) (hz:ys.length<=sizeLine) :
  Inv X pins σ (upd H s.heap.objs.size (.lst ys)) { s with heap:=s.heap.push { cls:=.type "list",data:=.seq its.toArray },toks:=t' } :=
 I.laid (fun _ _ q=>Heap.get?_push_of_some _ q) (Nat.le_refl _) ⟨hz,its,0,hv,Heap.get?_push_size _ rfl⟩
theorem Inv.fresh (I:Inv X pins σ H s):H s.heap.objs.size=none:=I.hok.fresh (Nat.le_refl _)
theorem Inv.lstM (I:Inv X pins σ H s) (hH:H l=some (.lst xs)):xs.length<=sizeLine/\∃(its:List Value) (n:Nat),Vals xs its/\xs.length=its.length/\s.heap.get? l=some { cls:=.type "list",data:=.seq its.toArray n }:=by
 obtain⟨z,its,n,r,e⟩:=I.hok l _ hH;exact⟨z,its,n,r,r.length,e⟩
theorem znC {n:Nat}(h:n<=sizeLine):Builtin.List.listTooLong n=false:=by
 unfold Builtin.List.listTooLong;exact decide_eq_false (by omega)
end
section
variable {X:Cx}
def zo4:V->List V->Hp->VK->Prop:=fun x vs H Q=>∃l xs y,x=.ref l/\vs=[y]/\H l=some (.lst xs)/\xs.length<sizeLine/\Q .non (upd H l (.lst (xs++[y])))
theorem ZN:MtM X "list.append" zo4:=by
 intro pins s σ H x vs v us Q I rx rv h;obtain⟨l,xs,y,rfl,rfl,hH,hz,q⟩:=h;cases rx;obtain⟨u,rfl,ru⟩:=rv.one;obtain⟨z,its,n,r,hl,e⟩:=I.lstM hH;refine call_meets F.slot_list_append ⟨_,e,rfl⟩ F.entry_list_append (F.args_list_append_2 _ _) (PySem.list_append l its.toArray n u (by rw[List.size_toArray];omega)) ⟨e,?_⟩;refine⟨.non,_,I.lset (its':=its++[u]) hH e (by simp) (r.append (.cons ru .nil)) ?_,rfl,q⟩;rw[List.length_append,List.length_singleton];omega
def zpG:V->List V->Hp->VK->Prop:=fun x vs H Q=>∃l b xs zs,x=.ref l/\vs=[.ref b]/\H l=some (.lst xs)/\H b=some (.lst zs)/\xs.length+zs.length<=sizeLine/\Q .non (upd H l (.lst (xs++zs)))
theorem zjf:MtM X "list.extend" zpG:=by
 intro pins s σ H x vs v us Q I rx rv h;obtain⟨l,b,xs,zs,rfl,rfl,hH,hB,hz,q⟩:=h;cases rx;obtain⟨u,rfl,ru⟩:=rv.one;cases ru;obtain⟨z,its,n,r,hl,e⟩:=I.lstM hH;obtain⟨z2,its2,n2,r2,hl2,e2⟩:=I.lstM hB;have hsz:its.toArray.size+its2.toArray.size<=sizeLine:=by rw[List.size_toArray,List.size_toArray];omega
 have hlong:¬(!its.toArray.isEmpty&&Builtin.List.listTooLong (its.toArray.size+its2.toArray.size))=true:=by
  rw[znC hsz,Bool.and_false];exact Bool.false_ne_true
 refine call_meets F.slot_list_extend ⟨_,e,rfl⟩ F.entry_list_extend (F.args_list_extend_2 _ _)
  (AutoSeq1.list_extend_list_list_0 l its.toArray n b its2.toArray n2 hlong (by rw[List.size_toArray];omega) (by omega)) ⟨e,e2,?_⟩
 refine⟨.non,_,I.lset (its':=its++its2) hH e (by simp) (r.append r2) ?_,rfl,q⟩;rw[List.length_append];omega
def zrs:R2:=fun x y H Q=>∃l b xs zs,x=.ref l/\y=.ref b/\H l=some (.lst xs)/\H b=some (.lst zs)/\xs.length+zs.length<=sizeLine/\∀p,H p=none->Q (.ref p) (upd H p (.lst (xs++zs)))
theorem zl8:OpR X (binaryOp .Add) zrs:=by
 intro pins s σ H x y v u Q I rx ry h;obtain⟨l,b,xs,zs,rfl,rfl,hH,hB,hz,q⟩:=h;cases rx;cases ry;obtain⟨z,its,n,r,hl,e⟩:=I.lstM hH;obtain⟨z2,its2,n2,r2,hl2,e2⟩:=I.lstM hB;refine PySem.P.add_list e e2 ?_ (by rw[List.size_toArray,List.size_toArray];omega);have ea:its.toArray++its2.toArray=(its++its2).toArray:=by simp
 rw[ea];exact⟨.ref _,_,I.lnew (t':=s.toks) (r.append r2) (by rw[List.length_append];omega),rfl,q _ I.fresh⟩
end
section
variable {prog:Program}{w:World}{A:Around}{E:Value->Shared->Prop}{s:Shared}
end
section
variable {X:Cx}
end
end L2
namespace L2
open PySem PySem.Spec PyProof.Rows
theorem Vals.ints:∀{ns:List Int}{us:List Value},Vals (ns.map V.int) us->IntsAre us ns
 |[],us,h=>by
  rw[List.map_nil] at h;cases h;exact IntsAre.nil
 |n::ns,us,h=>by
  rw[List.map_cons] at h;cases h with
  |cons r t =>
   obtain⟨k,rfl⟩:=r;exact IntsAre.cons n k (Vals.ints t)
theorem zcQ:∀{us:List Value}{ns:List Int},IntsAre us ns->Vals (ns.map V.int) us
 |_,_,.nil=>by rw[List.map_nil];exact Paired.nil
 |_,_,.cons n t h=>by rw[List.map_cons];exact Paired.cons (show RelV (V.int n) (Value.int n t) from⟨t,rfl⟩) (zcQ h)
theorem Vals.bls:∀{bs:List Bool}{us:List Value},Vals (bs.map V.bl) us->us=bs.map Value.bool
 |[],us,h=>by
  rw[List.map_nil] at h;cases h;rfl
 |b::bs,us,h=>by
  rw[List.map_cons] at h;cases h with
  |cons r t =>
   cases r;rw[Vals.bls t,List.map_cons]
theorem Vals.ref1 {a:Addr}{us:List Value}(r:Vals [V.ref a] us):us=[Value.ref a]:=by
 cases r with
 |cons r t =>
  cases t;cases r;rfl
section
variable {prog:Program}{w:World}{A:Around}{E:Value->Shared->Prop}{s:Shared}{l:Addr}{its:List Value}{ns:List Int}{Q:Value->Shared->Prop}
end
section
variable {X:Cx}
def zpy (K:PySem.W.Frag):List V->Hp->VK->Prop:=fun vs H Q=>∃(a:Addr) (ns:List Int),vs=[V.ref a]/\SqL K H a (ns.map V.int)/\ns.length<64 /\
 ∀(ns':List Int) (p:Addr),ns'.Perm ns->ns'.Pairwise (·<=·)->H p=none->Q (.ref p) (upd H p (.lst (ns'.map V.int)))
theorem zpr {n:Nat}(h:n<64):n<=sizeLine:=by rw[sizeLine_eq];omega
theorem zm9:zgD X (.builtin "sorted") (zpy X.K):=by
 intro pins s σ H vs us Q I r h;obtain⟨a,ns,rfl,hs,h64,q⟩:=h;obtain⟨its,rv,hl,_⟩:=I.list hs;rw[Vals.ref1 r];have hi:=rv.ints;refine PyProof.Rows.sorted_ints hl.isList hi (by rw[hi.length];exact h64) fun out ns' h1 h2 h3=>?_;obtain⟨ep,he'⟩:=PyProof.Rows.sortedAll_at s.heap its out;have hlen:(ns'.map V.int).length<=sizeLine:=by rw[List.length_map,h2.length_eq];exact zpr h64
 exact⟨.ref _,upd H (s.heap.objs.size+1) (.lst (ns'.map V.int)),I.laid (t':=s.toks) (fun _ _=>PyProof.Rows.sortedAll_old) (Nat.le_succ _) ⟨hlen,out.toList,ep,zcQ h1,he'⟩,rfl,q ns' _ h2 h3 (I.hok.fresh (Nat.le_succ _))⟩
end
section
variable {X:Cx}
end
section
variable {X:Cx}
end
theorem zkZ {prog:Program}{w:World}{A:Around}{E:Value->Shared->Prop}{s:Shared}{l:Addr}{items:Array Value}{Q:Value->Shared->Prop}(hl:s.heap.IsList l items)
  (h:∀s₂:Shared,s₂={ s with heap:=s.heap.push { cls:=.type "list_iterator",data:=.fields #[.ref l,.int 0 0] } } ->
    (s₂.heap.IsListIter s.heap.objs.size l 0/\s₂.heap.IsList l items)->l≠s.heap.objs.size->Q (.ref s.heap.objs.size) s₂):wpAny (model prog w) A (pyIter (.ref l)) Q E s:=by
 have hlt:l<s.heap.objs.size:=by obtain⟨_,e,_⟩:=hl;exact Heap.lt_size e
 exact wpAny_pyIter_list hl (h _ rfl ⟨⟨_,Heap.get?_push_size _ rfl,rfl,rfl⟩,hl.push _⟩ (Nat.ne_of_lt hlt))
theorem zgq {prog:Program}{w:World}{A:Around}{bs:List Bool}{its:List Value}(e:its=bs.map Value.bool) :
  TruthOf prog w A (fun i v=>its.toArray[i]?=some v) (fun i=>bs.getD i false):=fun i v s Q E hv hq=>by
 have hv':its[i]?=some v:=by simpa using hv
 rw[e,List.getElem?_map] at hv';obtain⟨b,hb,rfl⟩:=Option.map_eq_some_iff.mp hv';have hg:bs.getD i false=b:=by rw[List.getD_eq_getElem?_getD,hb] <;> rfl
 have hq':Q (bs.getD i false) s:=hq;rw[hg] at hq';exact wpAny_truthy_bool hq'
theorem zi6:∀bs:List Bool,(List.range bs.length).any (fun i=>bs.getD i false)=bs.any id
 |[]=>rfl
 |b::bs=>by
  rw[List.length_cons,List.range_succ_eq_map,List.any_cons,List.any_map,List.any_cons,<-zi6 bs]
  all_goals rfl
theorem zje:∀bs:List Bool,(List.range bs.length).all (fun i=>bs.getD i false)=bs.all id
 |[]=>rfl
 |b::bs=>by
  rw[List.length_cons,List.range_succ_eq_map,List.all_cons,List.all_map,List.all_cons,<-zje bs]
  all_goals rfl
section
variable {X:Cx}
def zrn (K:PySem.W.Frag):List V->Hp->VK->Prop:=fun vs H Q=>∃(a:Addr) (bs:List Bool),vs=[V.ref a]/\SqL K H a (bs.map V.bl)/\Q (.bl (bs.any id)) H
def zrF (K:PySem.W.Frag):List V->Hp->VK->Prop:=fun vs H Q=>∃(a:Addr) (bs:List Bool),vs=[V.ref a]/\SqL K H a (bs.map V.bl)/\Q (.bl (bs.all id)) H
theorem zlD (hc:X.calm=true):zgD X (.builtin "any") (zrn X.K):=by
 intro pins s σ H vs us Q I r h;obtain⟨a,bs,rfl,hs,q⟩:=h;obtain⟨its,rv,hl,_⟩:=I.list hs;rw[Vals.ref1 r];have hb:=rv.bls;refine call_any_walk (zkZ hl.isList fun s₂ e2 st hne=>?_);subst e2;refine⟨_,_,_,_,_,_,_,rfl,Walks.list (A:=X.A.in1) (I.ok.hd hc) _ a hne its.toArray,st,zgq hb,fun h' tk hk=>?_⟩;refine⟨.bl _,H,I.kept fun b o eo=>hk b o (fun hmem=>?_) (Heap.get?_push_of_some _ eo),?_,q⟩
 ·rcases List.mem_cons.mp hmem with e1|hmem
  ·exact absurd (e1 ▸ Heap.lt_size eo) (Nat.lt_irrefl _)
  ·cases hmem
 ·show Value.bool _=Value.bool _;rw[<-zi6,hb,List.size_toArray,List.length_map]
theorem zl2 (hc:X.calm=true):zgD X (.builtin "all") (zrF X.K):=by
 intro pins s σ H vs us Q I r h;obtain⟨a,bs,rfl,hs,q⟩:=h;obtain⟨its,rv,hl,_⟩:=I.list hs;rw[Vals.ref1 r];have hb:=rv.bls;refine call_all_walk (zkZ hl.isList fun s₂ e2 st hne=>?_);subst e2;refine⟨_,_,_,_,_,_,_,rfl,Walks.list (A:=X.A.in1) (I.ok.hd hc) _ a hne its.toArray,st,zgq hb,fun h' tk hk=>?_⟩;refine⟨.bl _,H,I.kept fun b o eo=>hk b o (fun hmem=>?_) (Heap.get?_push_of_some _ eo),?_,q⟩
 ·rcases List.mem_cons.mp hmem with e1|hmem
  ·exact absurd (e1 ▸ Heap.lt_size eo) (Nat.lt_irrefl _)
  ·cases hmem
 ·show Value.bool _=Value.bool _;rw[<-zje,hb,List.size_toArray,List.length_map]
end
mutual
inductive Dp (K:PySem.W.Frag) (H:Hp):V->PyData->Prop
 |non:Dp K H .non .none
 |bl (b:Bool):Dp K H (.bl b) (.bool b)
 |int (i:Int):Dp K H (.int i) (.int i)
 |str (x:Str):Dp K H (.str x) (.str x)
 |lst {a:Addr} {xs:List V} {ds:List PyData}:SqL K H a xs->zgC K H xs ds->Dp K H (.ref a) (.list ds)
 |tup {a:Addr} {xs:List V} {ds:List PyData}:SqT K H a xs->zgC K H xs ds->Dp K H (.ref a) (.tuple ds)
inductive zgC (K:PySem.W.Frag) (H:Hp):List V->List PyData->Prop
 |nil:zgC K H [] []
 |cons {v:V} {vs:List V} {d:PyData} {ds:List PyData}:Dp K H v d->zgC K H vs ds->zgC K H (v::vs) (d::ds)
end
section
variable {X:Cx}{pins:List (Addr×Obj)}{σ:St}{H:Hp}{s:Shared}
mutual
theorem Dp.reads (I:Inv X pins σ H s):∀(d:PyData) (v:V) (u:Value),Dp X.K H v d->RelV v u->∃as,Reads s.heap u d as
 |.none,_,_,h,r=>by
  cases h;cases r;exact⟨_,Reads.none⟩
 |.bool b,_,_,h,r=>by
  cases h;cases r;exact⟨_,Reads.bool b⟩
 |.int i,_,_,h,r=>by
  cases h;obtain⟨t,rfl⟩:=r;exact⟨_,Reads.int i t⟩
 |.str x,_,_,h,r=>by
  cases h;obtain⟨t,rfl⟩:=r;exact⟨_,Reads.str x t⟩
 |.list ds,_,_,h,r=>by
  cases h with
  |lst hs ha =>
   cases r;obtain⟨its,rv,⟨o,n,ho,hc,_,hd⟩,_⟩:=I.list hs;obtain⟨as,hr⟩:=Dp.readsAll I ds _ its ha rv;exact⟨_,Reads.list ho hc hd hr⟩
 |.tuple ds,_,_,h,r=>by
  cases h with
  |tup hs ha =>
   cases r;obtain⟨its,rv,⟨o,ho,hc,n,hd⟩,_⟩:=I.tuple hs;obtain⟨as,hr⟩:=Dp.readsAll I ds _ its ha rv;exact⟨_,Reads.tuple ho hc hd hr⟩
 |.dict _,_,_,h,_=>by cases h
theorem Dp.readsAll (I:Inv X pins σ H s):∀(ds:List PyData) (vs:List V) (us:List Value),zgC X.K H vs ds->Vals vs us->∃as,ReadsAll s.heap us ds as
 |[],_,_,h,r=>by
  cases h;cases r;exact⟨_,ReadsAll.nil⟩
 |d::ds,_,_,h,r=>by
  cases h with
  |cons h1 h2 =>
   cases r with
   |cons r1 r2 =>
    obtain⟨as,q1⟩:=Dp.reads I d _ _ h1 r1;obtain⟨bs,q2⟩:=Dp.readsAll I ds _ _ h2 r2;exact⟨_,ReadsAll.cons q1 q2⟩
end
end
section
variable {X:Cx}
def zrD (K:PySem.W.Frag):R2:=fun x y H Q=>∃d e,Dp K H x d/\Dp K H y e/\SeqAt.shaped d=true/\SeqAt.shaped e=true/\Q (.bl (PyData.eqv d e)) H
def zq2 (K:PySem.W.Frag):R2:=fun x y H Q=>∃d e,Dp K H x d/\Dp K H y e/\SeqAt.shaped d=true/\SeqAt.shaped e=true/\Q (.bl (!PyData.eqv d e)) H
theorem zlP (hu:X.A.units+64<cLine):OpR X (compareOp .Eq) (zrD X.K):=by
 intro pins s σ H x y v u Q I rx ry h;obtain⟨d,e,hd,he,sd,se,q⟩:=h;obtain⟨as,r1⟩:=Dp.reads I d x v hd rx;obtain⟨bs,r2⟩:=Dp.reads I e y u he ry;exact SeqAt.compareEq_shaped r1 r2 sd se hu ⟨.bl _,H,I,rfl,q⟩
theorem zhc (hu:X.A.units+64<cLine):OpR X (compareOp .NotEq) (zq2 X.K):=by
 intro pins s σ H x y v u Q I rx ry h;obtain⟨d,e,hd,he,sd,se,q⟩:=h;obtain⟨as,r1⟩:=Dp.reads I d x v hd rx;obtain⟨bs,r2⟩:=Dp.reads I e y u he ry;exact SeqAt.compareNe_shaped r1 r2 sd se hu ⟨.bl _,H,I,rfl,q⟩
end
end L2
namespace L2
open PySem PySem.Spec PyProof.Rows
abbrev zoO (h:Heap) (c:Addr) (v:Option Value):Prop:=h.IsCell c v
def zrj (scope sc:Scope):Scope :=
 { scope with names:=scope.names.map fun(n,k)=>if (k == .free&&sc.kind == .function&&sc.names.lookup n == some .cell) then(n,.cell) else(n,k) }
def z5 (cells:List (Str×Addr)):List (Str×NameKind)->List (Str×Addr)->List (Str×Addr)
 |[],acc=>acc
 |(n,k)::r,acc=>if k == .free then z5 cells r ((n,(cells.lookup n).getD 0)::acc) else z5 cells r acc
theorem zft (env:Env) (f:Str×NameKind->List (Str×Addr)->Sem (ForInStep (List (Str×Addr))))
  (hf:∀n k c,f (n,k) c=if k == .free then(do let a <-cellOf env n;pure (.yield ((n,a)::c))) else pure (.yield c)) :
  ∀(names:List (Str×NameKind)) (acc:List (Str×Addr)),(∀y∈names,y.2=.free->∃c,env.cells.lookup y.1=some c)->forIn names acc f=pure (z5 env.cells names acc)
 |[],acc,_=>by rw[List.forIn_nil];rfl
 |(n,k)::r,acc,h=>by
  rw[List.forIn_cons,hf];have ih:=fun acc=>zft env f hf r acc fun y hy=>h y (List.mem_cons_of_mem _ hy);unfold z5;by_cases hk:(k == NameKind.free)=true
  ·rw[if_pos hk,if_pos hk];obtain⟨c,hc⟩:=h (n,k) List.mem_cons_self (by simpa using hk);have e:cellOf env n=pure c:=by unfold cellOf;rw[hc]
   rw[e];have e2:(env.cells.lookup n).getD 0=c:=by rw[hc];rfl
   rw[e2];exact ih _
  ·rw[if_neg hk,if_neg hk];exact ih _
theorem zlt {scope:Scope}{env:Env}(h:∀y∈scope.names,y.2=.free->∃c,env.cells.lookup y.1=some c):closureFor scope env=pure (z5 env.cells scope.names []):=by
 simp only[closureFor];rw[zft env _ (fun n k c=>rfl) scope.names [] h];rfl
theorem zeX {α:Type}:∀{l:List (Str×α)}{n:Str}{c:α},(n,c)∈l->∃c',l.lookup n=some c'
 |(k,v)::r,n,c,h=>by
  rw[List.lookup_cons];cases hb:n == k with
  |true=>exact⟨_,rfl⟩
  |false =>
   rcases List.mem_cons.mp h with e|h
   ·cases e;simp at hb
   ·exact zeX h
theorem zbJ {cells:List (Str×Addr)}:∀{names:List (Str×NameKind)}{acc:List (Str×Addr)}{n:Str}{c:Addr},(n,c)∈z5 cells names acc->(n,c)∈acc\/((n,.free)∈names/\c=(cells.lookup n).getD 0)
 |[],_,_,_,h=>.inl h
 |(m,k)::r,acc,n,c,h=>by
  unfold z5 at h;split at h
  ·rename_i hk;have hk:k=.free:=by simpa using hk
   rcases zbJ h with h|⟨h1,h2⟩
   ·rcases List.mem_cons.mp h with e|h
    ·cases e;exact .inr ⟨hk ▸ List.mem_cons_self,rfl⟩
    ·exact .inl h
   ·exact .inr ⟨List.mem_cons_of_mem _ h1,h2⟩
  ·rcases zbJ h with h|⟨h1,h2⟩
   ·exact .inl h
   ·exact .inr ⟨List.mem_cons_of_mem _ h1,h2⟩
theorem zdL {cells:List (Str×Addr)}:∀{names:List (Str×NameKind)}{acc:List (Str×Addr)}{p:Str×Addr},p∈acc->p∈z5 cells names acc
 |[],_,_,h=>h
 |(m,k)::r,acc,p,h=>by
  unfold z5;split
  ·exact zdL (List.mem_cons_of_mem _ h)
  ·exact zdL h
theorem zdX {cells:List (Str×Addr)}:∀{names:List (Str×NameKind)}{acc:List (Str×Addr)}{n:Str},(n,.free)∈names->(n,(cells.lookup n).getD 0)∈z5 cells names acc
 |(m,k)::r,acc,n,h=>by
  unfold z5;rcases List.mem_cons.mp h with e|h
  ·cases e;exact zdL List.mem_cons_self
  ·split
   ·exact zdX h
   ·exact zdX h
theorem zcb:∀{names:List (Str×NameKind)}{h:Heap}{acc:List (Str×Addr)}{x:Str}{c:Addr},(x,c)∈cellsFrom h.objs.size names acc ->
  (x,c)∈acc\/((x,.cell)∈names/\h.objs.size<=c/\zoO (pushCells h names) c none)
 |[],_,_,_,_,h=>.inl h
 |(n,k)::r,h,acc,x,c,hm=>by
  unfold cellsFrom at hm;unfold pushCells;split at hm
  ·rename_i hk;rw[if_pos hk];have hk:k=.cell:=by simpa using hk
   rw[<-Heap.size_push h { cls:=.type "cell",data:=.cell none }] at hm;rcases zcb hm with hm|⟨h1,h2,h3⟩
   ·rcases List.mem_cons.mp hm with e|hm
    ·cases e;exact .inr ⟨hk ▸ List.mem_cons_self,Nat.le_refl _,_,pushCells_keeps r _ _ _ (Heap.get?_push_size _ rfl),rfl⟩
    ·exact .inl hm
   ·rw[Heap.size_push] at h2;exact .inr ⟨List.mem_cons_of_mem _ h1,Nat.le_of_succ_le h2,h3⟩
  ·rename_i hk;rw[if_neg hk];rcases zcb hm with hm|⟨h1,h2,h3⟩
   ·exact .inl hm
   ·exact .inr ⟨List.mem_cons_of_mem _ h1,h2,h3⟩
theorem zef:∀{names:List (Str×NameKind)}{n:Nat}{acc:List (Str×Addr)}{p:Str×Addr},p∈acc->p∈cellsFrom n names acc
 |[],_,_,_,h=>h
 |(m,k)::r,n,acc,p,h=>by
  unfold cellsFrom;split
  ·exact zef (List.mem_cons_of_mem _ h)
  ·exact zef h
theorem zf5:∀{names:List (Str×NameKind)}{n:Nat}{acc:List (Str×Addr)}{x:Str},(x,.cell)∈names->∃c,(x,c)∈cellsFrom n names acc
 |(m,k)::r,n,acc,x,h=>by
  unfold cellsFrom;rcases List.mem_cons.mp h with e|h
  ·cases e;exact⟨n,zef List.mem_cons_self⟩
  ·split
   ·exact zf5 h
   ·exact zf5 h
theorem zfZ:∀{names:List (Str×NameKind)}{h:Heap}{acc:List (Str×Addr)}{x y:Str}{c:Addr},(∀p∈acc,p.2<h.objs.size)->(∀x y c,(x,c)∈acc->(y,c)∈acc->x=y) ->
  (x,c)∈cellsFrom h.objs.size names acc->(y,c)∈cellsFrom h.objs.size names acc->x=y
 |[],_,_,_,_,_,_,hi,h1,h2=>hi _ _ _ h1 h2
 |(n,k)::r,h,acc,x,y,c,hl,hi,h1,h2=>by
  unfold cellsFrom at h1 h2;split at h1
  ·rename_i hk;rw[if_pos hk] at h2;rw[<-Heap.size_push h { cls:=.type "cell",data:=.cell none }] at h1 h2;refine zfZ (h:=h.push _) (fun p hp=>?_) (fun x y c a b=>?_) h1 h2
   ·rw[Heap.size_push];rcases List.mem_cons.mp hp with rfl|hp
    ·exact Nat.lt_succ_self _
    ·exact Nat.lt_succ_of_lt (hl p hp)
   ·rcases List.mem_cons.mp a with e|a <;> rcases List.mem_cons.mp b with e'|b
    ·cases e;cases e';rfl
    ·cases e;exact absurd (hl _ b) (Nat.lt_irrefl _)
    ·cases e';exact absurd (hl _ a) (Nat.lt_irrefl _)
    ·exact hi _ _ _ a b
  ·rename_i hk;rw[if_neg hk] at h2;exact zfZ hl hi h1 h2
theorem zki {M:Model}{A:Around}{E:Value->Shared->Prop}{s:Shared}{scope:Scope}{globals:Addr}{closure:List (Str×Addr)}{qual:Str}{func:Option Addr}{code:Value}{around:Env}{builtins:Addr}{Q:Env->Shared->Prop}
  (h:Q (newEnv scope s.heap.objs.size globals (cellsFrom (s.heap.objs.size+1) scope.names closure) qual func code (some around) builtins)
    { s with heap:=pushCells (s.heap.push { cls:=.type "dict",data:=.dict #[] }) scope.names }) :
  wpAny M A (newFunctionEnv scope globals closure [] qual func code (some around) builtins) Q E s:=by
 simp only[newFunctionEnv,Option.isSome_some,if_true];refine wpAny_bind (wpAny_alloc ?_);refine wpAny_bind (wpAny_layCells _ (fun n k c=>rfl) scope.names closure _ _ ?_);rw[show({ s with heap:=s.heap.push { cls:=.type "dict",data:=.dict #[] } }:Shared).heap.objs.size=s.heap.objs.size+1 from Heap.size_push ..];rw[List.forIn_nil];exact wpAny_bind (wpAny_pure (wpAny_pure h))
theorem zdt {sc:Scope}:∀{names:List (Str×NameKind)}{x:Str}{k:NameKind},
  (names.map fun(n,k)=>if (k == NameKind.free&&sc.kind == .function&&sc.names.lookup n == some .cell) then(n,NameKind.cell) else(n,k)).lookup x=some k ->
  ∃k',names.lookup x=some k'/\(k=k'\/(k'=.free/\k=.cell))
 |[],_,_,h=>by simp at h
 |(n,k₀)::r,x,k,h=>by
  have ih:=@zdt sc r x k;have h':List.lookup x ((if (k₀ == NameKind.free&&sc.kind == .function&&sc.names.lookup n == some .cell)=true then(n,NameKind.cell) else(n,k₀))::(r.map _))=some k:=h;cases hx:x == n with
  |true =>
   simp only[List.lookup_cons,hx];by_cases hc:(k₀ == NameKind.free&&sc.kind == .function&&sc.names.lookup n == some .cell)=true
   ·rw[if_pos hc] at h';simp only[List.lookup_cons,hx] at h';cases h';simp only[Bool.and_eq_true,beq_iff_eq] at hc;exact⟨k₀,rfl,.inr ⟨hc.1.1,rfl⟩⟩
   ·rw[if_neg hc] at h';simp only[List.lookup_cons,hx] at h';cases h';exact⟨_,rfl,.inl rfl⟩
  |false =>
   simp only[List.lookup_cons,hx];by_cases hc:(k₀ == NameKind.free&&sc.kind == .function&&sc.names.lookup n == some .cell)=true
   ·rw[if_pos hc] at h';simp only[List.lookup_cons,hx] at h';exact ih h'
   ·rw[if_neg hc] at h';simp only[List.lookup_cons,hx] at h';exact ih h'
structure zky (N:List Str) (sc scope:Scope) (own:List (Str×Nat)):Prop where
 kind:scope.kind=.function
 uniq:∀y∈scope.names,scope.names.lookup y.1=some y.2
 ix:∀p∈own,N[p.2]?=some p.1
 free:∀y∈scope.names,y.2=.free->sc.names.lookup y.1=some .cell\/sc.names.lookup y.1=some .free
 own:∀y∈scope.names,y.2=.local\/y.2=.cell->y.1∈own.map (·.1)\/y.1∉N
def yF (σ:St):List Nat->St
 |[]=>σ
 |v::vs=>(yF σ vs).set v none
theorem zdv (σ:St):∀vs:List Nat,(yF σ vs).length=σ.length
 |[]=>rfl
 |v::vs=>by unfold yF;rw[List.length_set,zdv σ vs]
theorem zgg {σ:St}{i:Nat}{x:V}:∀{vs:List Nat},(yF σ vs)[i]?=some (some x)->σ[i]?=some (some x)/\i∉vs
 |[],h=>⟨h,by simp⟩
 |v::vs,h=>by
  unfold yF at h;by_cases hi:v=i
  ·subst hi;by_cases hv:v<(yF σ vs).length
   ·rw[List.getElem?_set_self hv] at h;cases h
   ·rw[List.getElem?_eq_none (by simpa using hv)] at h;cases h
  ·rw[List.getElem?_set_ne hi] at h;obtain⟨h1,h2⟩:=zgg h;exact⟨h1,by simp only[List.mem_cons,not_or];exact⟨fun e=>hi e.symm,h2⟩⟩
abbrev Cx.blk (X:Cx) (s:Shared) (H:Hp) (scope:Scope) (cenv:Env) (fp:List Addr):Cx:={ X with s_0:=s,H_0:=H,env:=cenv,outer:=X.stack,ex:=fp,fn:=fun x=>scope.names.lookup x == some .cell,pn:=[],xe:=fun _ _=>False }
section
variable {X:Cx}{pins:List (Addr×Obj)}{σ:St}{H:Hp}{s:Shared}
theorem zkQ {scope:Scope}{own:List (Str×Nat)}{fp:List Addr}(I:Inv X pins σ H s) (ok:zky X.N X.env.scope scope own) (hN:X.N.Nodup) (hfp:∀b∈fp,zgV X pins H b/\b<s.heap.objs.size) :
  Inv (X.blk s H scope (compEnvC scope (cellsFrom (s.heap.objs.size+1) scope.names (z5 X.env.cells scope.names [])) s.heap.objs.size X.env) fp) [] (yF σ (own.map (·.2))) H { s with heap:=pushCells (s.heap.push { cls:=.type "dict",data:=.dict #[] }) scope.names }:=by
 have hfree:∀y∈scope.names,y.2=.free->∃c,X.env.cells.lookup y.1=some c:=fun y hy e=>by
  rcases ok.free y hy e with k|k
  ·exact I.ok.has _ (.inl k)
  ·exact I.ok.has _ (.inr k)
 generalize hcenv:compEnvC scope (cellsFrom (s.heap.objs.size+1) scope.names (z5 X.env.cells scope.names [])) s.heap.objs.size X.env=cenv;have kp:∀b o,s.heap.get? b=some o->(pushCells (s.heap.push { cls:=.type "dict",data:=.dict #[] }) scope.names).get? b=some o:=fun b o e=>pushCells_keeps _ _ _ _ (Heap.get?_push_of_some _ e);have hL:cenv.locals=s.heap.objs.size:=by rw[<-hcenv];rfl
 have hcl:cenv.cells=cellsFrom (s.heap.objs.size+1) scope.names (z5 X.env.cells scope.names []):=by rw[<-hcenv];rfl
 have hsc:cenv.scope=zrj scope X.env.scope:=by rw[<-hcenv];rfl
 rw[<-Heap.size_push s.heap { cls:=.type "dict",data:=.dict #[] }] at hcl;have cm:∀{y c},(y,c)∈z5 X.env.cells scope.names []->X.env.cells.lookup y=some c/\c<s.heap.objs.size:=fun{y c} hm=>by
  rcases zbJ hm with hm|⟨h1,rfl⟩
  ·cases hm
  ·obtain⟨c,hc⟩:=hfree _ h1 rfl;rw[hc];obtain⟨w,z⟩:=I.cell _ _ hc;exact⟨rfl,z.lt⟩
 have mem:∀{y c},cenv.cells.lookup y=some c->(X.env.cells.lookup y=some c/\c<s.heap.objs.size)\/(s.heap.objs.size+1<=c/\zoO (pushCells (s.heap.push { cls:=.type "dict",data:=.dict #[] }) scope.names) c none):=fun{y c} e=>by
  rw[hcl] at e;rcases zcb (PySem.mem_of_lookup e) with hm|⟨_,h2,h3⟩
  ·exact .inl (cm hm)
  ·rw[Heap.size_push] at h2;exact .inr ⟨h2,h3⟩
 have look:∀{y},scope.names.lookup y=some .free->∃c,cenv.cells.lookup y=some c/\X.env.cells.lookup y=some c:=fun{y} hl=>by
  have hy:(y,NameKind.free)∈scope.names:=PySem.mem_of_lookup hl;obtain⟨c',e'⟩:=zeX (zef (names:=scope.names) (n:=(s.heap.push { cls:=.type "dict",data:=.dict #[] }).objs.size) (zdX (cells:=X.env.cells) (acc:=[]) hy));rw[<-hcl] at e';refine⟨c',e',?_⟩;rw[hcl] at e';rcases zcb (PySem.mem_of_lookup e') with hm|⟨h1,_,_⟩
  ·exact(cm hm).1
  ·have:=ok.uniq _ h1;rw[hl] at this;cases this
 have okB:(X.blk s H scope cenv fp).Ok:=by
  refine⟨I.ok.mod,by show cenv.scope.kind=_;rw[hsc];exact ok.kind,by show cenv.globals=_;rw[<-hcenv];exact I.ok.glob,by show cenv.builtins=_;rw[<-hcenv];exact I.ok.blt,by show s.heap.objs.size<=cenv.locals;rw[hL];exact Nat.le_refl _,
   fun y z c e1 e2=>?_,fun y hy=>?_,fun y c z e=>?_,I.ok.hd,I.ok.frames,.inl rfl,fun b hb=>⟨?_,fun y c e z=>?_⟩,I.bs,Nat.le_trans I.ok.bsz I.sz,fun b o e hb=>?_,fun b hb z=>?_,I.stack,I.stkFree⟩
  ·have e1:cenv.cells.lookup y=some c:=e1;have e2:cenv.cells.lookup z=some c:=e2;rw[hcl] at e1 e2;refine zfZ (fun p hp=>?_) (fun y z c a b=>I.ok.inj y z c (cm a).1 (cm b).1) (PySem.mem_of_lookup e1) (PySem.mem_of_lookup e2);rw[Heap.size_push];exact Nat.lt_succ_of_lt (cm (y:=p.1) (c:=p.2) hp).2
  ·show ∃c,cenv.cells.lookup y=some c;have key:∀k,cenv.kindOf y=some k->(k=.cell\/k=.free)->∃c,cenv.cells.lookup y=some c:=fun k hk hk'=>by
    unfold Env.kindOf at hk;rw[hsc] at hk;obtain⟨k',e,r⟩:=zdt hk;have:k'=.cell\/k'=.free:=by
     rcases r with rfl|⟨rfl,_⟩
     ·exact hk'
     ·exact .inr rfl
    rcases this with rfl|rfl
    ·obtain⟨c,hm⟩:=zf5 (n:=(s.heap.push { cls:=.type "dict",data:=.dict #[] }).objs.size) (acc:=z5 X.env.cells scope.names []) (PySem.mem_of_lookup e);obtain⟨c',e'⟩:=zeX hm;exact⟨c',by rw[hcl];exact e'⟩
    ·obtain⟨c,h1,_⟩:=look e;exact⟨c,h1⟩
   rcases hy with hy|hy
   ·exact key _ hy (.inl rfl)
   ·exact key _ hy (.inr rfl)
  ·have z:(scope.names.lookup y == some NameKind.cell)=true:=z;have z:scope.names.lookup y=some .cell:=by simpa using z
   have e:cenv.cells.lookup y=some c:=e;rw[hcl] at e;rcases zcb (PySem.mem_of_lookup e) with hm|⟨_,h2,_⟩
   ·rcases zbJ hm with hm|⟨h1,_⟩
    ·cases hm
    ·have q:=ok.uniq _ h1;rw[z] at q;cases q
   ·rw[Heap.size_push] at h2;exact Nat.le_of_succ_le h2
  ·show b≠cenv.locals;rw[hL];exact Nat.ne_of_lt (hfp b hb).2
  ·have e:cenv.cells.lookup y=some c:=e;rcases mem e with⟨h1,_⟩|⟨h1,_⟩
   ·exact(hfp b hb).1.2.2.2.2.1 y c h1 z
   ·have h2:s.heap.objs.size+1<=b:=by rw[<-z];exact h1
    exact absurd (Nat.lt_of_lt_of_le (hfp b hb).2 (Nat.le_of_succ_le h2)) (Nat.lt_irrefl _)
  ·rcases(hfp b hb).1.2.2.2.1 with z|z
   ·exact I.ok.noex b o e z
   ·exact absurd (Nat.lt_of_lt_of_le (Heap.lt_size e) (Nat.le_trans I.ok.bsz z)) (Nat.lt_irrefl _)
  ·rcases List.mem_cons.mp (I.stkSub b z) with z|z
   ·exact(hfp b hb).1.2.1 z
   ·exact(hfp b hb).1.2.2.1 z
 refine⟨okB,rfl,I.bare,Un.kept kp,⟨fun _=>none,?_,fun i y av e1 e2 e3=>?_⟩,fun y c e=>?_,?_,fun y c e=>?_,fun p hp=>?_,I.hok.kept kp,by rw[zdv];exact I.len⟩
 ·show Heap.Ns _ cenv.locals _;rw[hL];exact Heap.Ns.keeps (Heap.Ns.new ..) fun b o e=>pushCells_keeps _ _ _ _ e
 ·obtain⟨e2,hne⟩:=zgg e2;have hfr:scope.names.lookup y=some .free/\(cenv.kindOf y=some .cell\/cenv.kindOf y=some .free):=by
   have key:∀k,cenv.scope.names.lookup y=some k->k=.local\/k=.cell\/k=.free->scope.names.lookup y=some .free/\(cenv.kindOf y=some .cell\/cenv.kindOf y=some .free):=fun k hk hk'=>by
    have hk0:=hk;rw[hsc] at hk;obtain⟨k',e,r⟩:=zdt hk;have no:¬(k'=.local\/k'=.cell):=fun hh=>by
     rcases ok.own _ (PySem.mem_of_lookup e) hh with e'|e'
     ·obtain⟨p,hp,hpy⟩:=List.mem_map.mp e';have e3:=ok.ix p hp;have:p.1=y:=hpy;rw[this] at e3;exact hne (List.mem_map.mpr ⟨p,hp,ze5 hN e3 e1⟩)
     ·exact e' (List.mem_of_getElem? e1)
    rcases r with rfl|⟨rfl,rfl⟩
    ·rcases hk' with rfl|rfl|rfl
     ·exact absurd (.inl rfl) no
     ·exact absurd (.inr rfl) no
     ·exact⟨e,.inr hk0⟩
    ·exact⟨e,.inl hk0⟩
   have e3:Vis cenv.scope y:=e3;rcases e3 with e3|e3|e3
   ·exact key _ e3 (.inl rfl)
   ·exact key _ e3 (.inr (.inl rfl))
   ·exact key _ e3 (.inr (.inr rfl))
  obtain⟨m,hn,hl⟩:=I.loc;have hvis:Vis X.env.scope y:=(ok.free _ (PySem.mem_of_lookup hfr.1) rfl).elim (fun k=>.inr (.inl k)) (fun k=>.inr (.inr k));obtain⟨w,r,q⟩:=hl i y av e1 e2 hvis;refine⟨w,r,.inr ⟨hfr.2,?_⟩⟩;obtain⟨c,h1,h2⟩:=look hfr.1;rcases q with⟨k,_⟩|⟨_,c',e',z⟩
  ·have k:X.env.scope.names.lookup y=some .local:=k;rcases ok.free _ (PySem.mem_of_lookup hfr.1) rfl with k'|k' <;> rw[show X.env.scope.names.lookup y=_ from k'] at k <;> cases k
  ·rw[h2] at e';cases e';exact⟨c,h1,z.keeps kp⟩
 ·have e:cenv.cells.lookup y=some c:=e;rcases mem e with⟨h1,_⟩|⟨_,z⟩
  ·obtain⟨w,z⟩:=I.cell y c h1;exact⟨w,z.keeps kp⟩
  ·exact⟨_,z⟩
 ·show H cenv.locals=none;rw[hL];exact I.hok.fresh (Nat.le_refl _)
 ·have e:cenv.cells.lookup y=some c:=e;rcases mem e with⟨h1,_⟩|⟨h1,_⟩
  ·exact I.freeC y c h1
  ·exact I.hok.fresh (Nat.le_of_succ_le h1)
 ·exact absurd (show p∈([]:List (Addr×Obj))++[] from hp) (by simp)
theorem zqH {E:Value->Shared->Prop}{D:Addr}{xs:List V}{y:V}{v:Value}{Q:Value->Shared->Prop}(I:Inv X pins σ H s) (hD:H D=some (.lst xs)) (hz:xs.length<sizeLine) (r:RelV y v)
  (h:∀s',Inv X pins σ (upd H D (.lst (xs++[y]))) s'->Q .none s'):wpAny (model X.prog X.w) X.A (call (.builtin "list.append") [.ref D,v]) Q E s:=by
 obtain⟨hz',its,n,ri,e⟩:=I.hok D _ hD;have hl:=ri.length;refine append_at (hsz:=by rw[List.size_toArray];omega) e fun h' sb ho'=>?_;refine h { s with heap:=h' } (I.write (t':=s.toks) (by rw[hD];trivial) (.inl rfl) (fun b u hb q=>(sb.2 b hb).trans q) ⟨_,ho'⟩ ⟨by rw[List.length_append];exact hz,its++[v],n+1,ri.append (.cons r .nil),?_⟩);rw[ho'];simp
def PTs (X:Cx) (ifs:List Expr) (t:TT):Prop :=
 ∀(pins:List (Addr×Obj)) (s:Shared) (σ:St) (H:Hp) (Q:Bool->Hp->Prop),Inv X pins σ H s->t σ H Q ->
  wpAny (model X.prog X.w) X.A (forIn ifs true fun c r=>if r=true then do let ok <-isTrue c X.env (eval c X.env);pure (ForInStep.yield ok) else pure (ForInStep.yield r)) (TP X pins σ Q) X.xe s
def zpj:TT:=fun _ H Q=>Q true H
theorem Zh:PTs X [] zpj:=fun _ _ _ H _ I h=>wpAny_tests_nil ⟨H,I,h⟩
theorem zpz {c:Expr}{t:TT}(h:PT X c t):PTs X [c] t:=fun pins s σ H Q I hw=>wpAny_tests_one (h pins s σ H Q I hw)
end
theorem zp5 {α:Type}{t:Sem α}{Q Q':α->Shared->Prop}{M:Model}{A:Around}{E:Value->Shared->Prop}{s:Shared}(h:wpAny M A t Q (fun _ _=>False) s) (hQ:∀a s,Q a s->Q' a s):wpAny M A t Q' E s:=wpAny_mono h hQ fun _ _ z=>False.elim z
theorem zjq {prog:Program}{w:World}{A:Around}{R:Result->Shared->Prop}{s:Shared}{elt target iter:Expr}{ifs:List Expr}{scope:Scope}{pos:Pos}{it acc:Value}{env:Env}(I:Nat->Shared->Prop)
  (turn:∀n s,I n s->wpAny (model prog w) A (pyNext it) (fun r s₁=>match r with
    |none=>R (.ok .next) s₁
    |some v=>wpAny (model prog w) A (letOwnedTupleGo target it v) (fun _ s₁'=>wpAny (model prog w) A (assign target env v) (fun _ s₂ =>
      wpAny (model prog w) A (forIn ifs true fun c r=>if r=true then do let ok <-isTrue c env (eval c env);pure (ForInStep.yield ok) else pure (ForInStep.yield r)) (fun ok s₃ =>
       if ok=true then wpAny (model prog w) A (eval elt env) (fun x s₄ =>
        wpAny (model prog w) A (call (.builtin "list.append") [acc,x]) (fun _ s₅=>∃m,m<n/\I m s₅) (notedBy (model prog w) A env fun e s'=>R (.error e) s') s₄) (notedBy (model prog w) A env fun e s'=>R (.error e) s') s₃
       else ∃m,m<n/\I m s₃) (notedBy (model prog w) A env fun e s'=>R (.error e) s') s₂) (notedBy (model prog w) A env fun e s'=>R (.error e) s') s₁') (notedBy (model prog w) A env fun e s'=>R (.error e) s') s₁) (notedBy (model prog w) A env fun e s'=>R (.error e) s') s)
  (n:Nat) (h:I n s) :
  codeAny (model prog w) A (.compLoop (.ListComp elt [⟨target,iter,ifs,0⟩] scope pos) 0 it acc env) R s:=by
 refine codeAny_loop rfl I (fun n s hI=>?_) n h;show wpAny _ A ((compTurn (.ListComp elt [⟨target,iter,ifs,0⟩] scope pos) 0 it acc env).onRaise (fun x=>do noteFrame x env;theTreesLotGoes x)) _ _ s;refine wpAny_noted ?_;rw[compTurn_list];refine wpAny_bind (wpAny_standAt (wpAny_bind (wpAny_mono (turn n s hI) (fun r s₁ h₁=>?_) fun _ _ h'=>h')));cases r with
 |none=>exact wpAny_pure h₁
 |some v =>
  refine wpAny_bind (wpAny_mono h₁ (fun _ s₁' h₁'=>?_) fun _ _ h'=>h');refine wpAny_bind (wpAny_mono h₁' (fun _ s₂ h₂=>wpAny_bind (wpAny_mono h₂ (fun ok s₃ h₃=>?_) fun _ _ h'=>h')) fun _ _ h'=>h');cases ok with
  |false=>exact wpAny_pure ⟨rfl,h₃⟩
  |true =>
   exact wpAny_bind (wpAny_bind (wpAny_mono h₃ (fun x s₄ h₄=>wpAny_bind (wpAny_mono h₄ (fun _ s₅ h₅=>wpAny_pure (wpAny_pure ⟨rfl,h₅⟩)) fun _ _ h'=>h')) fun _ _ h'=>h'))
section
variable {X:Cx}
def tLc (wi:TI) (g:TG) (tt:TT) (te:TE) (vs:List Nat):TE:=fun σ H Q=>wi σ H fun J H1=>∀D,H1 D=none->∃W:Nat->Nat->Hp->Prop,(∃m,W 0 m (upd H1 D (.lst [])))/\∀i m H,W i m H ->
 (J.stop i H/\Q (.ref D) H)\/(J.go i H/\∃Nx:Hp->Prop,(∀H',Nx H'->∃m',m'<m/\W (i+1) m' H')/\∀x H',J.yld i H x H'->g x (yF σ vs) H' fun σ2 H2=>yF σ2 vs=yF σ vs/\tt σ2 H2 fun b H3 =>
   if b=true then te σ2 H3 fun y H4=>∃acc,H4 D=some (.lst acc)/\acc.length<sizeLine/\Nx (upd H4 D (.lst (acc++[y]))) else Nx H3)
end
theorem znX {lo:Int}{n:Nat}{g:TG}{tt:TT}{te:TE}{vs:List Nat}{σ:St}{H1:Hp}{D:Addr}{Qd:Hp->Prop}(Pv:Nat->Hp->Prop) (h0:Pv 0 (upd H1 D (.lst [])))
  (hs:∀i H,i<n->Pv i H->g (.int (lo+i)) (yF σ vs) H fun σ2 H2=>yF σ2 vs=yF σ vs/\tt σ2 H2 fun b H3 =>
    if b=true then te σ2 H3 fun y H4=>∃acc,H4 D=some (.lst acc)/\acc.length<sizeLine/\Pv (i+1) (upd H4 D (.lst (acc++[y]))) else Pv (i+1) H3) (hd:∀H,Pv n H->Qd H) :
  ∃W:Nat->Nat->Hp->Prop,(∃m,W 0 m (upd H1 D (.lst [])))/\∀i m H,W i m H ->
   ((Itr lo n).stop i H/\Qd H)\/((Itr lo n).go i H/\∃Nx:Hp->Prop,(∀H',Nx H'->∃m',m'<m/\W (i+1) m' H')/\∀x H',(Itr lo n).yld i H x H'->g x (yF σ vs) H' fun σ2 H2=>yF σ2 vs=yF σ vs/\tt σ2 H2 fun b H3 =>
     if b=true then te σ2 H3 fun y H4=>∃acc,H4 D=some (.lst acc)/\acc.length<sizeLine/\Nx (upd H4 D (.lst (acc++[y]))) else Nx H3):=by
 refine⟨fun i m H=>m=n-i/\i<=n/\Pv i H,⟨n,by simp,Nat.zero_le _,h0⟩,?_⟩;rintro i m H ⟨rfl,hi,p⟩;by_cases hlt:i<n
 ·refine .inr ⟨hlt,Pv (i+1),fun H' p'=>⟨n-(i+1),by omega,rfl,hlt,p'⟩,fun x H' y=>?_⟩;obtain⟨e,y⟩:=y;subst e y;exact hs i _ hlt p
 ·have e:i=n:=by omega
  subst e;exact .inl ⟨Nat.le_refl _,hd H p⟩
theorem Z4 {K:PySem.W.Frag}{a:Addr}{xs:List V}{g:TG}{tt:TT}{te:TE}{vs:List Nat}{σ:St}{H1:Hp}{D:Addr}{Qd:Hp->Prop}(Pv:Nat->Hp->Prop) (h0:Pv 0 (upd H1 D (.lst []))) (hl:∀i H,i<=xs.length->Pv i H->SqL K H a xs)
  (hs:∀i x H,xs[i]?=some x->Pv i H->g x (yF σ vs) H fun σ2 H2=>yF σ2 vs=yF σ vs/\tt σ2 H2 fun b H3 =>
    if b=true then te σ2 H3 fun y H4=>∃acc,H4 D=some (.lst acc)/\acc.length<sizeLine/\Pv (i+1) (upd H4 D (.lst (acc++[y]))) else Pv (i+1) H3) (hd:∀H,Pv xs.length H->Qd H) :
  ∃W:Nat->Nat->Hp->Prop,(∃m,W 0 m (upd H1 D (.lst [])))/\∀i m H,W i m H ->
   ((Itl K a).stop i H/\Qd H)\/((Itl K a).go i H/\∃Nx:Hp->Prop,(∀H',Nx H'->∃m',m'<m/\W (i+1) m' H')/\∀x H',(Itl K a).yld i H x H'->g x (yF σ vs) H' fun σ2 H2=>yF σ2 vs=yF σ vs/\tt σ2 H2 fun b H3 =>
     if b=true then te σ2 H3 fun y H4=>∃acc,H4 D=some (.lst acc)/\acc.length<sizeLine/\Nx (upd H4 D (.lst (acc++[y]))) else Nx H3):=by
 refine⟨fun i m H=>m=xs.length-i/\i<=xs.length/\Pv i H,⟨xs.length,by simp,Nat.zero_le _,h0⟩,?_⟩;rintro i m H ⟨rfl,hi,p⟩;have q:=hl i H hi p;by_cases hlt:i<xs.length
 ·refine .inr ⟨⟨xs,xs[i],q,by simp[hlt]⟩,Pv (i+1),fun H' p'=>⟨xs.length-(i+1),by omega,rfl,hlt,p'⟩,fun x H' y=>?_⟩;obtain⟨e,y⟩:=y;subst e;exact hs i x _ (y xs q) p
 ·have e:i=xs.length:=by omega
  subst e;exact .inl ⟨⟨xs,q,Nat.le_refl _⟩,hd H p⟩
theorem zqB {K:PySem.W.Frag}{a:Addr}{xs:List V}{g:TG}{tt:TT}{te:TE}{vs:List Nat}{σ:St}{H1:Hp}{D:Addr}{Qd:Hp->Prop}(Pv:Nat->Hp->Prop) (h0:Pv 0 (upd H1 D (.lst []))) (hl:∀i H,i<=xs.length->Pv i H->SqT K H a xs)
  (hs:∀i x H,xs[i]?=some x->Pv i H->g x (yF σ vs) H fun σ2 H2=>yF σ2 vs=yF σ vs/\tt σ2 H2 fun b H3 =>
    if b=true then te σ2 H3 fun y H4=>∃acc,H4 D=some (.lst acc)/\acc.length<sizeLine/\Pv (i+1) (upd H4 D (.lst (acc++[y]))) else Pv (i+1) H3) (hd:∀H,Pv xs.length H->Qd H) :
  ∃W:Nat->Nat->Hp->Prop,(∃m,W 0 m (upd H1 D (.lst [])))/\∀i m H,W i m H ->
   ((Itt K a).stop i H/\Qd H)\/((Itt K a).go i H/\∃Nx:Hp->Prop,(∀H',Nx H'->∃m',m'<m/\W (i+1) m' H')/\∀x H',(Itt K a).yld i H x H'->g x (yF σ vs) H' fun σ2 H2=>yF σ2 vs=yF σ vs/\tt σ2 H2 fun b H3 =>
     if b=true then te σ2 H3 fun y H4=>∃acc,H4 D=some (.lst acc)/\acc.length<sizeLine/\Nx (upd H4 D (.lst (acc++[y]))) else Nx H3):=by
 refine⟨fun i m H=>m=xs.length-i/\i<=xs.length/\Pv i H,⟨xs.length,by simp,Nat.zero_le _,h0⟩,?_⟩;rintro i m H ⟨rfl,hi,p⟩;have q:=hl i H hi p;by_cases hlt:i<xs.length
 ·refine .inr ⟨⟨xs,xs[i],q,by simp[hlt]⟩,Pv (i+1),fun H' p'=>⟨xs.length-(i+1),by omega,rfl,hlt,p'⟩,fun x H' y=>?_⟩;obtain⟨e,y⟩:=y;subst e;exact hs i x _ (y xs q) p
 ·have e:i=xs.length:=by omega
  subst e;exact .inl ⟨⟨xs,q,Nat.le_refl _⟩,hd H p⟩
end L2
namespace L2
open PySem PySem.Spec PyProof.Rows
section
variable {prog:Program}{w:World}{A:Around}{R:Result->Shared->Prop}{s:Shared}{elt t0 i0 t1 i1:Expr}{ifs0 ifs1:List Expr}{scope:Scope}{pos:Pos}{it acc:Value}{env:Env}
end
section
variable {X:Cx}
end
end L2
namespace L2
open PySem PySem.Spec PyProof.Rows
section
variable {κ:Type}[DecidableEq κ]
end
section
variable {P:Program}{w:World}{H:Hp}{h:Heap}{a:Addr}
end
section
variable {X:Cx}{pins:List (Addr×Obj)}{σ:St}{H:Hp}{s:Shared}{a:Addr}{y v:V}{u r:Value}{o:Option V}{A:Around}{E:Value->Shared->Prop}
end
section
variable {X:Cx}{pins:List (Addr×Obj)}{σ:St}{H:Hp}{s:Shared}{a:Addr}{kvs:List (Key×V)}{k:Key}{u:Value}{A:Around}{E:Value->Shared->Prop}
end
section
variable {X:Cx}{o i e value:Expr}{pos pos' tpos:Pos}{td ty tv:TE}
end
section
variable {X:Cx}{pos:Pos}
end
structure M1 (X:Cx) (o:Expr) (m:Str) (apos:Pos) (e:Expr) (cpos:Pos):Prop where
 base:attributeBase o m X.env (eval o X.env)=eval o X.env
 few:((backTo cpos (starEach [e] X.env)).all (fun x=>!x.1)&&(backToKw cpos (keywordEach [] X.env)).all (fun x=>x.1.isSome)
  && decide (([e]:List Expr).length+([]:List Keyword).length+(if ([]:List Keyword).isEmpty then 0 else 1)<30))=true
 line:(apos.endLine == cpos.line)=true
 trees:backTo cpos (starEach [e] X.env)=[(false,eval e X.env)]
structure M2 (X:Cx) (o:Expr) (m:Str) (apos:Pos) (e f:Expr) (cpos:Pos):Prop where
 base:attributeBase o m X.env (eval o X.env)=eval o X.env
 few:((backTo cpos (starEach [e,f] X.env)).all (fun x=>!x.1)&&(backToKw cpos (keywordEach [] X.env)).all (fun x=>x.1.isSome)
  && decide (([e,f]:List Expr).length+([]:List Keyword).length+(if ([]:List Keyword).isEmpty then 0 else 1)<30))=true
 line:(apos.endLine == cpos.line)=true
 trees:backTo cpos (starEach [e,f] X.env)=[(false,eval e X.env),(false,eval f X.env)]
section
variable {X:Cx}{pins:List (Addr×Obj)}{σ:St}{H:Hp}{s:Shared}{a:Addr}{y d:V}{u r:Value}{o:Option V}{A:Around}{E:Value->Shared->Prop}
end
section
variable {X:Cx}{o e f:Expr}{apos cpos:Pos}{td ty tx:TE}
end
section
variable {X:Cx}{pins:List (Addr×Obj)}{σ:St}{H:Hp}{s:Shared}{a:Addr}{kvs:List (Key×V)}{A:Around}{E:Value->Shared->Prop}
end
section
variable {X:Cx}{pins:List (Addr×Obj)}{σ:St}{H:Hp}{s:Shared}{a:Addr}{y:V}{u:Value}{A:Around}{E:Value->Shared->Prop}
end
end L2
namespace L2
open PySem PySem.Spec PyProof.Rows
section
variable {prog:Program}{w:World}{A:Around}{E:Value->Shared->Prop}
end
section
variable {X:Cx}
end
end L2
namespace L2
open PySem PySem.Spec PyProof.Rows
section
variable {X:Cx}{pins:List (Addr×Obj)}{σ:St}{H:Hp}{s:Shared}{h':Heap}
theorem Inv.turnedNew {t':Nat}{ch:List Addr}{T:Addr}{ob:HO}(I:Inv X pins σ H s) (k:∀b o,b∉ch->s.heap.get? b=some o->h'.get? b=some o) (hf:∀b∈ch,zgV X pins H b) (hT:s.heap.objs.size<=T)
  (new:ObjOk X.prog X.w (upd H T ob) h' T ob):Inv X pins σ (upd H T ob) { s with heap:=h',toks:=t' }:=by
 have hn:H T=none:=I.hok.fresh hT;have nit:∀b u,H b=some u->b∉ch:=fun b u e z=>by
  have q:=(hf b z).1;rw[q] at e;cases e
 refine I.step (g':=s.gens) (d':=s.drawn) (ch:=ch) (fun b hb=>⟨(hf b hb).2.2.2.1,(hf b hb).2.1,(hf b hb).2.2.2.2.1,(hf b hb).2.2.2.2.2⟩) (fun b o _ _ hc e _=>k b o hc e) (fun b o _ _ hc e _=>⟨o.slots,k b o hc e⟩)
  (fun b o _ e n=>?_) (fun b o hc e=>⟨o,k b o hc e⟩) (fun b xs e=>?_) (fun b o u e=>?_) (fun b ps e=>⟨#[],?_⟩) (fun m hm=>?_) (fun b u e=>?_) I.bare
 ·rw[zd (Nat.ne_of_lt (Nat.lt_of_lt_of_le (Heap.lt_size e) hT))];exact n
 ·rw[zd (zg e hn)];exact e
 ·rw[zd (zg e hn)];exact e
 ·rw[zd (zg e hn),e];simp
 ·obtain⟨o,es,ep,ho,r⟩:=hm;exact⟨o,es,ep,k _ o (fun z=>(hf _ z).2.1 rfl) ho,r⟩
 ·by_cases hb:b=T
  ·subst hb;rw[zc] at e;cases e;exact new
  ·rw[zd hb] at e;refine(I.hok b u e).stay (fun c v hc q=>k c v ?_ q) (fun c q=>by rw[zd (zg q hn)];exact q) fun c xs q=>by rw[zd (zg q hn)];exact q
   rcases hc with z|z
   ·rw[z];exact nit b u e
   ·exact nit c _ z
end
section
variable {X:Cx}
theorem zn5 {tg:Expr}{pins:List (Addr×Obj)}{σ:St}{H:Hp}{s:Shared}{R:It->Hp->Prop}{J:It}{tn:Nat->Heap->Prop}{tk:Nat}(I:Inv X pins σ H s) (o:Obj)
  (T:zkr X.prog X.w X.K tg J [s.heap.objs.size] s.heap.objs.size tn) (st:tn 0 (s.heap.push o)) (q:R J H):PIE X pins σ tg R (.ref s.heap.objs.size) { s with heap:=s.heap.push o,toks:=tk }:=by
 refine⟨s.heap.objs.size,[s.heap.objs.size],tn,J,H,rfl,I.kept fun b ob e=>Heap.get?_push_of_some _ e,T,st,fun b hb=>?_,q⟩;have e:b=s.heap.objs.size:=by simpa using hb
 subst e;exact I.fpOk (Nat.le_refl _) (I.hok.fresh (Nat.le_refl _))
end
section
variable {X:Cx}{tg:Expr}
end
section
variable {X:Cx}{tg:Expr}
end
def Its (x:Str):It:=⟨fun i _=>i<x.cps.size,fun i H v H'=>H'=H/\∃c,x.cps[i]?=some c/\v=.str ⟨#[c]⟩,fun i _=>x.cps.size<=i⟩
theorem zk2 {P:Program}{w:World}{K:PySem.W.Frag}{tg:Expr}(it:Addr) (x:Str) (t:Tok) (ty:String) (hty:ty = "str_ascii_iterator" \/ ty = "str_iterator") :
  zkr P w K tg (Its x) [it] it (fun i h=>h.IsStrIter it ty x t i) where
 mem:=by simp
 obj:=fun i h st b hb=>by
  have e:b=it:=by simpa using hb
  subst e;obtain⟨o,e,c,d⟩:=st;exact⟨o,e,fun v z=>by rw[d] at z;cases z⟩
 keep:=fun i h h' st k=>let ⟨o,ho,r⟩:=st;⟨o,k it (by simp) o ho,r⟩
 item:=by
  intro X hP hw hK hc i pins s σ H E I hf st hg;subst hP hw hK;obtain⟨f0,f1,f2,f3,f4,f5⟩:=hf it (by simp);have W:Walks X.prog X.w X.A it [it] [it] x.cps.size (SignAt x) (fun i h=>h.IsStrIter it ty x t i):=by
   rcases hty with e|e
   ·rw[e];exact Walks.strAscii (I.ok.hd hc) it x t
   ·rw[e];exact Walks.strWide (I.ok.hd hc) it x t
  have hno:["enumerate", "zip", "dict_itemiterator", "dict_reverseitemiterator", "odict_iterator", "itertools.zip_longest", "itertools.pairwise"].contains ty=false:=by
   rcases hty with e|e
   ·rw[e];decide
   ·rw[e];decide
  refine W.item i s _ _ hg st fun v h' tk hv st' kk=>?_;obtain⟨c,u,hcx,rfl⟩:=hv;have I1:Inv X pins σ H { s with heap:=h',toks:=tk }:=I.turned (fun b o hb e=>kk b o (by simpa using hb) e) f0 f1 f3 f4 f5;obtain⟨oi,e,cc,dd⟩:=id st';exact⟨_,rfl,zml (s:={ s with heap:=h',toks:=tk }) e cc dd hno ⟨.str ⟨#[c]⟩,H,I1,⟨u,rfl⟩,⟨rfl,c,hcx,rfl⟩,st',fun b hb=>(hf b hb).1⟩⟩
 done:=by
  intro X hP hw hK hc i pins s σ H E I hf st hg;subst hP hw hK;obtain⟨f0,f1,f2,f3,f4,f5⟩:=hf it (by simp);have hx:x.cps[i]?=none:=Array.getElem?_eq_none hg;rcases hty with e|e
  ·rw[e] at st;exact wpAny_pyNext_ascii_end (I.ok.hd hc) st hx fun h' eb=>⟨rfl,I.turned (t':=s.toks) (fun b o hb e=>eb b o hb e) f0 f1 f3 f4 f5⟩
  ·rw[e] at st;exact wpAny_pyNext_wide_end (I.ok.hd hc) st hx fun h' eb=>⟨rfl,I.turned (t':=s.toks) (fun b o hb e=>eb b o hb e) f0 f1 f3 f4 f5⟩
 self:=fun A i s Q E st h=>by
  rcases hty with e|e
  ·rw[e] at st;exact wpAny_pyIter_striter_ascii st h
  ·rw[e] at st;exact wpAny_pyIter_striter_wide st h
def zrE (te:TE):TI:=fun σ H R=>te σ H fun v H1=>∃x,v=.str x/\R (Its x) H1
theorem zqs {X:Cx}{tg e:Expr}{te:TE}(he:PE X e te):PI X tg e (zrE te):=by
 intro pins s σ H R I h;refine thn (he pins s σ H _ I h) fun v s1 ⟨y,H1,I1,r1,x,ex,q⟩=>?_;subst ex;obtain⟨t,rfl⟩:=r1;cases ha:x.cps.all (·<128)
 ·exact wpAny_pyIter_wide ha (zn5 (tk:=s1.toks) I1 _ (zk2 _ x t "str_iterator" (.inr rfl)) ⟨_,Heap.get?_push_size _ rfl,rfl,rfl⟩ q)
 ·exact wpAny_pyIter_ascii ha (zn5 (tk:=s1.toks) I1 _ (zk2 _ x t "str_ascii_iterator" (.inl rfl)) ⟨_,Heap.get?_push_size _ rfl,rfl,rfl⟩ q)
section
variable {prog:Program}{w:World}{A:Around}{E:Value->Shared->Prop}{s:Shared}
end
section
variable {X:Cx}{pins:List (Addr×Obj)}{σ:St}{H:Hp}{s:Shared}{d:Addr}{o:Obj}
end
section
variable {P:Program}{w:World}{K:PySem.W.Frag}{tg:Expr}{d:Addr}{o:Obj}{es:Array DictEntry}{ep:Nat}
end
section
variable {X:Cx}{tg e:Expr}{td:TE}{apos cpos:Pos}
end
def Ite (K:PySem.W.Frag) (a:Addr):It :=
 ⟨fun i H=>∃(xs:List V) (x:V),SqL K H a xs/\xs[i]?=some x,fun i H v H'=>∃T x,v=.ref T/\H T=none/\H'=upd H T (.tup [.int (i:Nat),x])/\∀xs,SqL K H a xs->xs[i]?=some x,fun i H=>∃xs:List V,SqL K H a xs/\xs.length<=i⟩
theorem zmW {P:Program}{w:World}{K:PySem.W.Frag}{elts:List Expr}{kk:Nat}{tpos:Pos}(a e it:Addr) :
  zkr P w K (.Tuple elts kk tpos) (Ite K a) [e,it] e (fun i h=>(∃old,IsEnum h e it ((i:Nat):Int) old)/\h.IsListIter it a i/\e≠it) where
 mem:=by simp
 obj:=fun i h st b hb=>by
  obtain⟨⟨old,he⟩,⟨o,ho,hc,hd⟩,_⟩:=st;have e':b=e\/b=it:=by simpa using hb
  rcases e' with z|z
  ·rw[z];exact⟨_,he,fun v q=>nomatch q⟩
  ·rw[z];exact⟨o,ho,fun v q=>by rw[hd] at q;cases q⟩
 keep:=fun i h h' st k=>let ⟨⟨old,he⟩,hi,hne⟩:=st;⟨⟨old,k e (by simp) _ he⟩,hi.at fun o q=>k it (by simp) o q,hne⟩
 item:=by
  intro X hP hw hK hc i pins s σ H E I hf st hg;subst hP hw hK;obtain⟨⟨old,he⟩,hit,hne⟩:=st;obtain⟨xs,x,hq,hx⟩:=hg;obtain⟨its,rv,p,hz⟩:=I.list hq;obtain⟨u,hu,ru⟩:=rv.get hx;have hel:e<s.heap.objs.size:=Heap.lt_size he;have hil:it<s.heap.objs.size:=by obtain⟨_,q,_⟩:=hit;exact Heap.lt_size q
  refine wpAny_pyNext_enum_item he hit p.isList (x:=u) (by simpa using hu) hne fun h' ho hit' hT hsz hk=>?_;refine⟨_,rfl,wpAny_letOwnedTupleGo_enum (s:={ s with heap:=h',toks:=s.toks+1 }) ho fun h'' he' sb=>?_⟩;have hT2:h''.get? s.heap.objs.size=some { cls:=.type "tuple",data:=.seq #[.int i s.toks,u] }:=(sb.2 _ (Nat.ne_of_gt hel)).trans hT;have new:ObjOk X.prog X.w (upd H s.heap.objs.size (.tup [.int (i:Nat),x])) h'' s.heap.objs.size (.tup [.int (i:Nat),x]) :=
   ⟨by show 2<=sizeLine;decide,[.int i s.toks,u],.cons ⟨_,rfl⟩ (.cons ru .nil),⟨_,hT2,rfl,_,rfl⟩⟩
  have I1:Inv X pins σ (upd H s.heap.objs.size (.tup [.int (i:Nat),x])) { s with heap:=h'',toks:=s.toks+1 } :=
   I.turnedNew (ch:=[e,it]) (fun b ob hb q=>(sb.2 b (fun z=>hb (by simp[z]))).trans (hk b ob (fun z=>hb (by simp[z])) (fun z=>hb (by simp[z])) q)) hf (Nat.le_refl _) new
  refine⟨.ref s.heap.objs.size,_,I1,rfl,⟨_,x,rfl,I.hok.fresh (Nat.le_refl _),rfl,fun ys hy=>by rw[I.list_inj hy hq];exact hx⟩,⟨⟨u,?_⟩,hit'.at fun o q=>(sb.2 it (Ne.symm hne)).trans q,hne⟩,fun b hb=>?_⟩
  ·have e1:((i+1:Nat):Int)=(i:Int)+1:=by omega
   rw[e1];exact he'
  ·have hb':b<s.heap.objs.size:=by
    have e':b=e\/b=it:=by simpa using hb
    rcases e' with z|z
    ·rw[z];exact hel
    ·rw[z];exact hil
   rw[zd (Nat.ne_of_lt hb')];exact(hf b hb).1
 done:=by
  intro X hP hw hK hc i pins s σ H E I hf st hg;subst hP hw hK;obtain⟨⟨old,he⟩,hit,hne⟩:=st;obtain⟨xs,hq,hx⟩:=hg;obtain⟨its,rv,p,hz⟩:=I.list hq;obtain⟨f0,f1,f2,f3,f4,f5⟩:=hf it (by simp);have hl:=rv.length;exact wpAny_pyNext_enum_end (I.ok.hd hc) he hit p.isList (by simp;omega) fun h' eb=>⟨rfl,I.turned (t':=s.toks) (fun b o hb q=>eb b o hb q) f0 f1 f3 f4 f5⟩
 self:=fun A i s Q E st h=>let ⟨⟨_,he⟩,_⟩:=st;wpAny_pyIter_enum he h
def zq8 (K:PySem.W.Frag) (ta:TA):TI:=fun σ H R=>ta σ H fun vs H1=>∃a xs,vs=[.ref a]/\SqL K H1 a xs/\R (Ite K a) H1
theorem zpF {X:Cx}{e:Expr}{ta:TA}{p pos tpos:Pos}{elts:List Expr}{kk:Nat}(hg:Gl X "enumerate") (hm:X.mg "enumerate" = none) (ha:PA X [e] ta) (hs:starEach [e] X.env=[(false,eval e X.env)]:=by rfl) :
  PI X (.Tuple elts kk tpos) (.Call (.Name "enumerate" p) [e] [] pos) (zq8 X.K ta):=by
 intro pins s σ H R I h;refine Call_ (zd2 I hg hm boot_enumerate (PyProof.Rows.callWith_type1 (thn (ha pos pins s σ H _ I h) fun us s1 ⟨vs,H1,I1,r1,q1⟩=>?_) hs rfl));obtain⟨a,xs,ex,hq,q⟩:=q1;subst ex;cases r1 with
 |cons r rr =>
  cases rr;cases r;obtain⟨its,rv,p',hz⟩:=I1.list hq;refine call_enumerate_list p'.isList fun h' he hit hsz hk=>wpAny_pyIter_enum he ?_;have I2:Inv X pins σ H1 { s1 with heap:=h' }:=I1.kept (t':=s1.toks) hk;refine⟨s1.heap.objs.size+1,[s1.heap.objs.size+1,s1.heap.objs.size],_,_,H1,rfl,I2,zmW a (s1.heap.objs.size+1) s1.heap.objs.size,⟨⟨.none,he⟩,hit,Nat.succ_ne_self _⟩,fun b hb=>?_,q⟩;have e':b=s1.heap.objs.size+1\/b=s1.heap.objs.size:=by simpa using hb
  have hle:s1.heap.objs.size<=b:=by
   rcases e' with z|z
   ·rw[z];exact Nat.le_add_right _ _
   ·rw[z];exact Nat.le_refl _
  exact I1.fpOk hle (I1.hok.fresh hle)
end L2
section
namespace Bits
open PySem PyProof.Rows
end Bits
end
section
namespace TL
open PySem PySem.Builtin PySem.Builtin.Str PySem.StrLaws
abbrev tl (x:Str):List Nat:=x.cps.toList
def pre (S l:List Nat):Bool:=l.take S.length == S
def spl (S:List Nat):Nat->List Nat->List Nat->List (List Nat)
 |_,acc,[]=>[acc]
 |0,acc,c::r=>if pre S (c::r)=true then acc::spl S (S.length-1) [] r else spl S 0 (acc++[c]) r
 |k+1,acc,_::r=>spl S k acc r
def par (S:List Nat):List Nat->List Nat->Option (List Nat×List Nat)
 |_,[]=>none
 |acc,c::r=>if pre S (c::r)=true then some (acc,(c::r).drop S.length) else par S (acc++[c]) r
end TL
end
namespace L2
open PySem PySem.Spec PyProof.Rows
section
variable {X:Cx}{pins:List (Addr×Obj)}{σ:St}{H:Hp}{s:Shared}{Q:VK}
end
section
variable {X:Cx}
end
section
variable {X:Cx}{o e:Expr}{to te:TE}
end
end L2
namespace L2
open PySem PySem.Spec PyProof.Rows
section
variable {X:Cx}
end
end L2
namespace Att
open PySem PySem.W PySem.Calls PyProof.Rows
section
variable {prog:Program}{w:World}{A:Around}{E:Value->Shared->Prop}{s:Shared}{K:Frag}
def zrI (h:Heap) (L d:Addr):List (Addr×Obj):=(List.range h.objs.size).filterMap fun a=>if a=L\/a=d then none else(h.get? a).map fun o=>(a,o)
end
end Att
namespace L2
open PySem PySem.Spec PyProof.Rows
end L2
namespace L2
open PySem PySem.Spec PyProof.Rows
end L2
namespace L2
open PySem PySem.Spec PyProof.Rows
def ye (s:Stmt) (j:Nat):Stmt:=match s with
 |.ClassDef _ _ _ body _ _ _ _ _ _ _=>body.getD j (.Pass ⟨0,0,0,0⟩)
 |_=>.Pass ⟨0,0,0,0⟩
def zaC (s:Stmt):Arguments:=match s with
 |.FunctionDef _ a _ _ _ _ _ _ _ _=>a
 |_=>{ posonlyargs:=[],args:=[],vararg:=none,kwonlyargs:=[],kw_defaults:=[],kwarg:=none,defaults:=[] }
def ZW (s:Stmt):List Stmt:=match s with
 |.FunctionDef _ _ b _ _ _ _ _ _ _=>b
 |_=>[]
def zk (s:Stmt):Scope:=match s with
 |.FunctionDef _ _ _ _ _ _ sc _ _ _=>sc
 |_=>{ kind:=.function,names:=[],isGenerator:=false,isCoroutine:=false }
abbrev E0:St->XK:=fun _ _ _ _=>False
structure Fun (K:PySem.W.Frag) (x qual:Str) (st:Stmt) (f:Addr) (fd:FuncData):Prop where
 ex:∃(oc:Value) (od:Option Addr) (kV doc pm:Value) (an:Option Addr) (cdv ct:Value) (osl:Array (Option Value)),
  fd=PySem.W.fnOf x qual (zaC st) (ZW st) (zk st) .none kV doc pm an cdv ct/\K.lookup f=some ⟨oc,od,.func fd,osl⟩/\PySem.W.codeIn K cdv qual=true
 kp:PySem.W.keepIn K (.ref f)=true
section
variable {P:Program}{w:World}{K:PySem.W.Frag}{mg:Str->Option Value}{base:Heap}
theorem Fun.binds {x qual:Str}{st:Stmt}{f:Addr}{fd:FuncData}{ps:List Str}(F:Fun K x qual st f fd)
  (h:∀(kV doc pm:Value) (an:Option Addr) (cdv ct:Value) (us:List Value),us.length=ps.length->bindArgs (PySem.W.fnOf x qual (zaC st) (ZW st) (zk st) .none kV doc pm an cdv ct) ⟨us,[]⟩=pure (ps.zip us)):Binds K fd ps []:=by
 obtain⟨oc,od,kV,doc,pm,an,cdv,ct,osl,rfl,lk,hcd⟩:=F.ex;exact .all (h kV doc pm an cdv ct)
theorem zjz {x qual:Str}{st:Stmt}{f:Addr}{oc:Value}{od an:Option Addr}{osl:Array (Option Value)}{kV doc pm cdv ct:Value}(l:K.lookup f=some ⟨oc,od,.func (PySem.W.fnOf x qual (zaC st) (ZW st) (zk st) .none kV doc pm an cdv ct),osl⟩)
  (c:PySem.W.codeIn K cdv qual=true) (k:PySem.W.keepIn K (.ref f)=true):Fun K x qual st f (PySem.W.fnOf x qual (zaC st) (ZW st) (zk st) .none kV doc pm an cdv ct):=⟨⟨oc,od,kV,doc,pm,an,cdv,ct,osl,rfl,l,c⟩,k⟩
end
section
variable {X:Cx}
theorem pv (i:Nat) {x:Str}{pos:Pos}(hN:X.N[i]?=some x:=by rfl) (hv:Vis X.env.scope x:=by first|exact Or.inl rfl|exact Or.inr (Or.inl rfl)|exact Or.inr (Or.inr rfl)) (hd:(x == ("__debug__" : Str))=false:=by decide)
  (hcd:(x == ("__classdict__" : Str))=false:=by decide):PE X (.Name x pos) (zbY i):=zqi hN hv hd hcd
end
theorem yw {A B:Prop}(h:B):if false=true then A else B:=by
 rw[if_neg Bool.false_ne_true];exact h
theorem yk {A B:Prop}(h:A):if true=true then A else B:=by
 rw[if_pos rfl];exact h
theorem zrC {c A B:Prop}[Decidable c] (h1:c->A) (h2:¬c->B):if c then A else B:=by
 by_cases h:c
 ·rw[if_pos h];exact h1 h
 ·rw[if_neg h];exact h2 h
def Same (H H':Hp):Prop:=∀b o,H b=some o->H' b=some o
theorem Same.refl (H:Hp):Same H H:=fun _ _ h=>h
theorem Same.trans {H H1 H2:Hp}(a:Same H H1) (b:Same H1 H2):Same H H2:=fun c o h=>b c o (a c o h)
theorem Same.free {H H':Hp}(e:Same H H') {l:Addr}(h:H' l=Option.none):H l=Option.none:=by
 cases q:H l with
 |none=>rfl
 |some o =>
  rw[e l o q] at h;cases h
theorem Same.seq {K:PySem.W.Frag}{H H':Hp}{a:Addr}{xs:List V}(e:Same H H') (h:SqL K H a xs):SqL K H' a xs:=by
 rcases h with(h|⟨o,h⟩)|h
 ·exact .inl (.inl (e _ _ h))
 ·exact .inl (.inr ⟨o,e _ _ h⟩)
 ·exact .inr h
section
variable {κ:Type}[DecidableEq κ]
end
end L2
namespace L2
open PySem PySem.Spec PyProof.Rows
open PySem.W (WData Codec OpenSpec Well WellAll ReadsW ReadsAllW)
mutual
inductive Dw (K:PySem.W.Frag) (H:Hp):V->WData->Prop
 |non:Dw K H .non .none
 |bl (b:Bool):Dw K H (.bl b) (.bool b)
 |int (i:Int):Dw K H (.int i) (.int i)
 |str (x:Str):Dw K H (.str x) (.str x)
 |byt (b:Array UInt8):Dw K H (.byt b) (.bytes b.toList)
 |lst {a:Addr} {xs:List V} {ds:List WData}:SqL K H a xs->zc3 K H xs ds->Dw K H (.ref a) (.list ds)
 |tup {a:Addr} {xs:List V} {ds:List WData}:SqT K H a xs->zc3 K H xs ds->Dw K H (.ref a) (.tuple ds)
inductive zc3 (K:PySem.W.Frag) (H:Hp):List V->List WData->Prop
 |nil:zc3 K H [] []
 |cons {v:V} {vs:List V} {d:WData} {ds:List WData}:Dw K H v d->zc3 K H vs ds->zc3 K H (v::vs) (d::ds)
end
theorem dw_ints {K:PySem.W.Frag}{H:Hp}:∀ns:List Int,zc3 K H (ns.map V.int) (ns.map WData.int)
 |[]=>.nil
 |n::r=>.cons (.int n) (dw_ints r)
theorem ints_dw {K:PySem.W.Frag}{H:Hp}:∀(ns:List Int) (xs:List V),zc3 K H xs (ns.map WData.int)->xs=ns.map V.int
 |[],xs,h=>by
  cases h;rfl
 |n::r,xs,h=>by
  cases h with
  |cons h1 h2 =>
   cases h1;rw[ints_dw r _ h2] <;> rfl
section
variable {P:Program}{w:World}{K:PySem.W.Frag}{H:Hp}{h:Heap}{R:PySem.W.WRecords}{cl:Str->Option Addr}
theorem zqj {a:Addr}{xs:List V}(hok:HOk P w H h) (KX:K.In h) (q:SqL K H a xs):∃(its:List Value) (o:Obj) (n:Nat),Vals xs its/\h.get? a=some o/\o.cls=.type "list" /\ o.data=.seq its.toArray n:=by
 rcases q with q|⟨o,its,n,e,hc,_,hd,_,hv⟩
 ·obtain⟨_,its,n,hv,e⟩:=(show ObjOk P w H h a (.lst xs) from q.ok hok)
  exact⟨its,_,n,hv,e,rfl,rfl⟩
 ·exact⟨its.toList,o,n,hv,KX _ _ e,hc,by simp[hd]⟩
theorem zqe {a:Addr}{xs:List V}(hok:HOk P w H h) (KX:K.In h) (q:SqT K H a xs):∃(its:List Value) (o:Obj) (n:Nat),Vals xs its/\h.get? a=some o/\o.cls=.type "tuple" /\ o.data=.seq its.toArray n:=by
 rcases q with q|⟨o,its,n,e,hc,hd,_,hv⟩
 ·obtain⟨_,its,hv,o,e,hc,n,hd⟩:=(show ObjOk P w H h a (.tup xs) from q.ok hok)
  exact⟨its,o,n,hv,e,hc,hd⟩
 ·exact⟨its.toList,o,n,hv,KX _ _ e,hc,by simp[hd]⟩
mutual
theorem Dw.reads (hok:HOk P w H h) (KX:K.In h):∀(d:WData) (v:V) (u:Value),Dw K H v d->RelV v u->∃as,ReadsW R cl h u d as
 |.none,_,_,x,r=>by
  cases x;cases r;exact⟨_,ReadsW.none⟩
 |.bool b,_,_,x,r=>by
  cases x;cases r;exact⟨_,ReadsW.bool b⟩
 |.int i,_,_,x,r=>by
  cases x;obtain⟨t,rfl⟩:=r;exact⟨_,ReadsW.int i t⟩
 |.str s,_,_,x,r=>by
  cases x;obtain⟨t,rfl⟩:=r;exact⟨_,ReadsW.str s t⟩
 |.bytes b,_,_,x,r=>by
  cases x;obtain⟨t,rfl⟩:=r;exact⟨_,ReadsW.bytes _ t⟩
 |.list ds,_,_,x,r=>by
  cases x with
  |lst hs ha =>
   cases r;obtain⟨its,o,n,rv,ho,hc,hd⟩:=zqj hok KX hs;obtain⟨as,hr⟩:=Dw.readsAll hok KX ds _ its ha rv;exact⟨_,ReadsW.list ho hc hd hr⟩
 |.tuple ds,_,_,x,r=>by
  cases x with
  |tup hs ha =>
   cases r;obtain⟨its,o,n,rv,ho,hc,hd⟩:=zqe hok KX hs;obtain⟨as,hr⟩:=Dw.readsAll hok KX ds _ its ha rv;exact⟨_,ReadsW.tuple ho hc hd hr⟩
 |.float _,_,_,x,_=>by cases x
 |.dict _,_,_,x,_=>by cases x
 |.bytearray _,_,_,x,_=>by cases x
 |.set _,_,_,x,_=>by cases x
 |.frozenset _,_,_,x,_=>by cases x
 |.obj _ _,_,_,x,_=>by cases x
theorem Dw.readsAll (hok:HOk P w H h) (KX:K.In h):∀(ds:List WData) (vs:List V) (us:List Value),zc3 K H vs ds->Vals vs us->∃as,ReadsAllW R cl h us ds as
 |[],_,_,x,r=>by
  cases x;cases r;exact⟨_,ReadsAllW.nil⟩
 |d::ds,_,_,x,r=>by
  cases x with
  |cons h1 h2 =>
   cases r with
   |cons r1 r2 =>
    obtain⟨as,q1⟩:=Dw.reads hok KX d _ _ h1 r1;obtain⟨bs,q2⟩:=Dw.readsAll hok KX ds _ _ h2 r2;exact⟨_,ReadsAllW.cons q1 q2⟩
end
end
mutual
def plW:WData->Bool
 |.none=>true
 |.bool _=>true
 |.int _=>true
 |.str _=>true
 |.bytes _=>true
 |.list xs=>zgT xs
 |.tuple xs=>zgT xs
 |_=>false
def zgT:List WData->Bool
 |[]=>true
 |x::r=>plW x&&zgT r
end
theorem zkF {α:Type}{f:α->WData}(h:∀a,plW (f a)=true):∀l:List α,zgT (l.map f)=true
 |[]=>rfl
 |x::r=>by
  show(plW (f x)&&zgT (r.map f))=true;rw[h x,zkF h r] <;> rfl
theorem zdy:∀(c:Codec) (a:c.denote),plW (c.enc a)=true
 |.unit,_=>rfl
 |.bool,_=>rfl
 |.int _ _,_=>rfl
 |.nat _ _,_=>rfl
 |.u8,_=>rfl
 |.bytes _ _,_=>rfl
 |.text _ _ _ _,_=>rfl
 |.list _ _ c,a=>zkF (fun x=>zdy c x) a
 |.pair c d,a=>by
  show(plW (c.enc a.1)&&(plW (d.enc a.2)&&true))=true;rw[zdy c a.1,zdy d a.2] <;> rfl
 |.triple c d e,a=>by
  show(plW (c.enc a.1)&&(plW (d.enc a.2.1)&&(plW (e.enc a.2.2)&&true)))=true;rw[zdy c a.1,zdy d a.2.1,zdy e a.2.2] <;> rfl
 |.option c,none=>rfl
 |.option c,some x=>zdy c x
theorem ziI:∀(cs:List Codec) (a:Codec.denoteAll cs),zgT (Codec.encAll cs a)=true
 |[],_=>rfl
 |c::cs,a=>by
  show(plW (c.enc a.1)&&zgT (Codec.encAll cs a.2))=true;rw[zdy c a.1,ziI cs a.2] <;> rfl
theorem ze0:∀{xs:List WData}{d:WData},d∈xs->d.weight<=WData.weightAll xs
 |[],d,h=>absurd h (by simp)
 |x::r,d,h=>by
  show d.weight<=x.weight+1+WData.weightAll r;rcases List.mem_cons.mp h with e|m
  ·rw[e];omega
  ·have z:=ze0 m;omega
def toV:Value->V
 |.none=>.non
 |.bool b=>.bl b
 |.int i _=>.int i
 |.str x _=>.str x
 |.bytes b _=>.byt b
 |.ref a=>.ref a
 |_=>.non
def OkU (A:List Addr):Value->Prop
 |.none=>True
 |.bool _=>True
 |.int _ _=>True
 |.str _ _=>True
 |.bytes _ _=>True
 |.ref a=>a∈A
 |_=>False
theorem OkU.mono {A B:List Addr}(h:∀a∈A,a∈B):∀{u:Value},OkU A u->OkU B u:=fun{u} x=>by
 cases u with
 |ref a=>exact h a x
 |none=>trivial
 |bool b=>trivial
 |int i t=>trivial
 |str s t=>trivial
 |bytes b t=>trivial
 |_=>exact False.elim x
theorem znU {A:List Addr}{u:Value}(x:OkU A u):RelV (toV u) u:=by
 cases u with
 |ref a=>rfl
 |none=>rfl
 |bool b=>rfl
 |int i t=>exact⟨t,rfl⟩
 |str s t=>exact⟨t,rfl⟩
 |bytes b t=>exact⟨t,rfl⟩
 |_=>exact False.elim x
theorem zcv {A:List Addr}:∀{vs:List Value},(∀u∈vs,OkU A u)->Vals (vs.map toV) vs
 |[],_=>.nil
 |u::r,h=>.cons (znU (h u (List.mem_cons_self ..))) (zcv fun x hx=>h x (List.mem_cons_of_mem _ hx))
def ArgOb (h:Heap) (A:List Addr) (a:Addr):Prop:=∃vs:List Value,vs.length<=sizeLine/\(∀u∈vs,OkU A u) /\
 (h.get? a=some { cls:=.type "list",data:=.seq vs.toArray }\/h.get? a=some { cls:=.type "tuple",data:=.seq vs.toArray })
theorem ArgOb.mono {h:Heap}{A B:List Addr}{a:Addr}(k:∀a∈A,a∈B) (x:ArgOb h A a):ArgOb h B a:=by
 obtain⟨vs,h1,h2,h3⟩:=x;exact⟨vs,h1,fun u hu=>(h2 u hu).mono k,h3⟩
theorem zbK {P:Params}{h:Heap}:∀{vs:List Value}{ds:List WData},WellAll P h vs ds->vs.length=ds.length
 |_,_,.nil=>rfl
 |_,_,.cons _ b=>by
  show _+1=_+1;rw[zbK b]
theorem ziU {P:Params}{h:Heap}{v:Value}{ds:List WData}(x:Well P h v (.list ds)):∃(a:Addr) (vs:List Value),v=.ref a/\h.get? a=some { cls:=.type "list",data:=.seq vs.toArray }/\WellAll P h vs ds:=by
 cases x with
 |list ho hall=>exact⟨_,_,rfl,ho,hall⟩
theorem zhg {P:Params}{h:Heap}{v:Value}{ds:List WData}(x:Well P h v (.tuple ds)):∃(a:Addr) (vs:List Value),v=.ref a/\h.get? a=some { cls:=.type "tuple",data:=.seq vs.toArray }/\WellAll P h vs ds:=by
 cases x with
 |tuple ho hall=>exact⟨_,_,rfl,ho,hall⟩
theorem ziL {P:Params}{h:Heap}{us:List Value}{d:WData}{ds:List WData}(x:WellAll P h us (d::ds)):∃(v:Value) (vs:List Value),us=v::vs/\Well P h v d/\WellAll P h vs ds:=by
 cases x with
 |cons a b=>exact⟨_,_,rfl,a,b⟩
theorem zmF {n:Nat}(h:n<=1048576):n<=sizeLine:=Nat.le_trans h (by decide)
section
variable {P:Params}{h:Heap}
mutual
theorem zoC:∀(d:WData) (v:Value),Well P h v d->plW d=true->d.weight<=1048576->∃A:List Addr,OkU A v/\∀a∈A,ArgOb h A a
 |.none,_,x,_,_=>by
  cases x;exact⟨[],trivial,fun a m=>absurd m (by simp)⟩
 |.bool b,_,x,_,_=>by
  cases x;exact⟨[],trivial,fun a m=>absurd m (by simp)⟩
 |.int i,_,x,_,_=>by
  cases x;exact⟨[],trivial,fun a m=>absurd m (by simp)⟩
 |.str s,_,x,_,_=>by
  cases x;exact⟨[],trivial,fun a m=>absurd m (by simp)⟩
 |.bytes b,_,x,_,_=>by
  cases x;exact⟨[],trivial,fun a m=>absurd m (by simp)⟩
 |.list ds,_,x,p,z=>by
  obtain⟨a,vs,rfl,ho,hall⟩:=ziU x;have z2:WData.weightAll ds<=1048576:=z;obtain⟨A,h1,h2⟩:=zfM ds _ hall p fun d hd=>Nat.le_trans (ze0 hd) z2;have k:∀b∈A,b∈a::A:=fun b hb=>List.mem_cons_of_mem _ hb;refine⟨a::A,List.mem_cons_self ..,fun b hb=>?_⟩;rcases List.mem_cons.mp hb with e|m
  ·rw[e];exact⟨vs,zmF (by rw[zbK hall];exact Nat.le_trans (PySem.W.length_le_weightAllW ds) z2),fun u hu=>(h1 u hu).mono k,.inl ho⟩
  ·exact(h2 b m).mono k
 |.tuple ds,_,x,p,z=>by
  obtain⟨a,vs,rfl,ho,hall⟩:=zhg x;have z2:WData.weightAll ds<=1048576:=z;obtain⟨A,h1,h2⟩:=zfM ds _ hall p fun d hd=>Nat.le_trans (ze0 hd) z2;have k:∀b∈A,b∈a::A:=fun b hb=>List.mem_cons_of_mem _ hb;refine⟨a::A,List.mem_cons_self ..,fun b hb=>?_⟩;rcases List.mem_cons.mp hb with e|m
  ·rw[e];exact⟨vs,zmF (by rw[zbK hall];exact Nat.le_trans (PySem.W.length_le_weightAllW ds) z2),fun u hu=>(h1 u hu).mono k,.inr ho⟩
  ·exact(h2 b m).mono k
 |.float _,_,_,p,_=>Bool.noConfusion (show false=true from p)
 |.dict _,_,_,p,_=>Bool.noConfusion (show false=true from p)
 |.bytearray _,_,_,p,_=>Bool.noConfusion (show false=true from p)
 |.set _,_,_,p,_=>Bool.noConfusion (show false=true from p)
 |.frozenset _,_,_,p,_=>Bool.noConfusion (show false=true from p)
 |.obj _ _,_,_,p,_=>Bool.noConfusion (show false=true from p)
theorem zfM:∀(ds:List WData) (vs:List Value),WellAll P h vs ds->zgT ds=true->(∀d∈ds,d.weight<=1048576)->∃A:List Addr,(∀u∈vs,OkU A u)/\∀a∈A,ArgOb h A a
 |[],_,x,_,_=>by
  cases x;exact⟨[],fun u m=>absurd m (by simp),fun a m=>absurd m (by simp)⟩
 |d::ds,_,x,p,z=>by
  obtain⟨v,vs,rfl,x1,x2⟩:=ziL x;have q:plW d=true/\zgT ds=true:=Bool.and_eq_true_iff.mp p;obtain⟨A,a1,a2⟩:=zoC d v x1 q.1 (z d (List.mem_cons_self ..));obtain⟨B,b1,b2⟩:=zfM ds vs x2 q.2 fun e he=>z e (List.mem_cons_of_mem _ he);have kA:∀b∈A,b∈A++B:=fun b hb=>List.mem_append.mpr (.inl hb);have kB:∀b∈B,b∈A++B:=fun b hb=>List.mem_append.mpr (.inr hb);refine⟨A++B,fun u hu=>?_,fun b hb=>?_⟩
  ·rcases List.mem_cons.mp hu with e|m
   ·rw[e];exact a1.mono kA
   ·exact(b1 u m).mono kB
  ·rcases List.mem_append.mp hb with m|m
   ·exact(a2 b m).mono kA
   ·exact(b2 b m).mono kB
end
end
def zo9 (o:Obj):Option HO:=match o.data with
 |.seq vs _=>if (o.cls == Value.type "list")=true then some (.frz o (.lst (vs.toList.map toV))) else some (.frz o (.tup (vs.toList.map toV)))
 |_=>none
def zcD (K:PySem.W.Frag) (h:Heap) (A:List Addr):Hp:=fun b=>if b∈A then(if (K.lookup b).isNone=true then(h.get? b).bind zo9 else none) else none
def zkY (H:Hp):Prop:=∀b,H b=none\/∃o u,H b=some (.frz o u)
theorem zkE (vs:List Value):zo9 { cls:=.type "list",data:=.seq vs.toArray }=some (.frz { cls:=.type "list",data:=.seq vs.toArray } (.lst (vs.map toV))):=by
 show(if (Value.type "list" == Value.type "list")=true then some (HO.frz { cls:=.type "list",data:=.seq vs.toArray } (.lst (vs.toArray.toList.map toV))) else some (HO.frz { cls:=.type "list",data:=.seq vs.toArray } (.tup (vs.toArray.toList.map toV))))=_;rw[if_pos (beq_self_eq_true _)]
theorem zkq (vs:List Value):zo9 { cls:=.type "tuple",data:=.seq vs.toArray }=some (.frz { cls:=.type "tuple",data:=.seq vs.toArray } (.tup (vs.map toV))):=by
 show(if (Value.type "tuple" == Value.type "list")=true then some (HO.frz { cls:=.type "tuple",data:=.seq vs.toArray } (.lst (vs.toArray.toList.map toV))) else some (HO.frz { cls:=.type "tuple",data:=.seq vs.toArray } (.tup (vs.toArray.toList.map toV))))=_;rw[if_neg (by decide)]
section
variable {P:Program}{w:World}{K:PySem.W.Frag}{h:Heap}{A:List Addr}
theorem zg0 {b:Addr}{o:Obj}(hb:b∈A) (hk:K.lookup b=none) (e:h.get? b=some o):zcD K h A b=zo9 o:=by
 unfold zcD;rw[if_pos hb,hk,if_pos (show(none:Option Obj).isNone=true from rfl),e] <;> rfl
theorem zpv {b:Addr}{u:HO}(q:zcD K h A b=some u):b∈A/\K.lookup b=none:=by
 unfold zcD at q;by_cases hb:b∈A
 ·rw[if_pos hb] at q;cases hk:K.lookup b with
  |none=>exact⟨hb,rfl⟩
  |some o =>
   rw[hk,if_neg (by simp)] at q;cases q
 ·rw[if_neg hb] at q;cases q
theorem zg3 (ar:∀a∈A,ArgOb h A a) {b:Addr}{u:HO}(q:zcD K h A b=some u):K.lookup b=none/\∃vs:List Value,vs.length<=sizeLine/\(∀u∈vs,OkU A u) /\
  ((h.get? b=some { cls:=.type "list",data:=.seq vs.toArray }/\u=.frz { cls:=.type "list",data:=.seq vs.toArray } (.lst (vs.map toV))) \/
   (h.get? b=some { cls:=.type "tuple",data:=.seq vs.toArray }/\u=.frz { cls:=.type "tuple",data:=.seq vs.toArray } (.tup (vs.map toV)))):=by
 obtain⟨hb,hk⟩:=zpv q;obtain⟨vs,h1,h2,h3⟩:=ar b hb;refine⟨hk,vs,h1,h2,?_⟩;rcases h3 with e|e
 ·rw[zg0 hb hk e,zkE] at q;exact .inl ⟨e,(Option.some.inj q).symm⟩
 ·rw[zg0 hb hk e,zkq] at q;exact .inr ⟨e,(Option.some.inj q).symm⟩
theorem znf (ar:∀a∈A,ArgOb h A a):zkY (zcD K h A):=fun b=>by
 cases q:zcD K h A b with
 |none=>exact .inl rfl
 |some u =>
  obtain⟨_,vs,_,_,⟨_,e⟩|⟨_,e⟩⟩:=zg3 ar q
  ·exact .inr ⟨_,_,by rw[e]⟩
  ·exact .inr ⟨_,_,by rw[e]⟩
theorem zpN (ar:∀a∈A,ArgOb h A a):HOk P w (zcD K h A) h:=fun b u q=>by
 obtain⟨_,vs,h1,h2,⟨e,rfl⟩|⟨e,rfl⟩⟩:=zg3 ar q
 ·exact⟨e,by rw[List.length_map];exact h1,vs,_,zcv h2,e⟩
 ·exact⟨e,by rw[List.length_map];exact h1,vs,zcv h2,_,e,rfl,_,rfl⟩
theorem zg1 {c c':Value}{vs us:List Value}(e:(some { cls:=c,data:=.seq vs.toArray }:Option Obj)=some { cls:=c',data:=.seq us.toArray }):c=c'/\vs=us:=by
 have e1:=Option.some.inj e;have e2:c=c':=congrArg Obj.cls e1;have e3:Data.seq vs.toArray=Data.seq us.toArray:=congrArg Obj.data e1;injection e3 with e4;refine⟨e2,?_⟩;have e5:=congrArg Array.toList e4;simpa using e5
theorem zrx (KX:K.In h) (ar:∀a∈A,ArgOb h A a) {a:Addr}{vs:List Value}(ha:a∈A) (e:h.get? a=some { cls:=.type "list",data:=.seq vs.toArray }):(∀u∈vs,OkU A u)/\SqL K (zcD K h A) a (vs.map toV):=by
 obtain⟨us,h1,h2,h3⟩:=ar a ha;have hu:us=vs:=by
  rcases h3 with q|q
  ·rw[e] at q;exact(zg1 q).2.symm
  ·rw[e] at q;exact absurd (Value.type.inj (zg1 q).1) (by decide)
 subst hu;refine⟨h2,?_⟩;cases hk:K.lookup a with
 |none=>exact .inl (.inr ⟨_,by rw[zg0 ha hk e,zkE]⟩)
 |some o =>
  have e2:=KX a o hk;rw[e] at e2;obtain rfl:=Option.some.inj e2;exact .inr ⟨_,us.toArray,_,hk,rfl,rfl,rfl,by rw[List.size_toArray];exact h1,by simpa using zcv h2⟩
theorem zrA (KX:K.In h) (ar:∀a∈A,ArgOb h A a) {a:Addr}{vs:List Value}(ha:a∈A) (e:h.get? a=some { cls:=.type "tuple",data:=.seq vs.toArray }):(∀u∈vs,OkU A u)/\SqT K (zcD K h A) a (vs.map toV):=by
 obtain⟨us,h1,h2,h3⟩:=ar a ha;have hu:us=vs:=by
  rcases h3 with q|q
  ·rw[e] at q;exact absurd (Value.type.inj (zg1 q).1) (by decide)
  ·rw[e] at q;exact(zg1 q).2.symm
 subst hu;refine⟨h2,?_⟩;cases hk:K.lookup a with
 |none=>exact .inl (.inr ⟨_,by rw[zg0 ha hk e,zkq]⟩)
 |some o =>
  have e2:=KX a o hk;rw[e] at e2;obtain rfl:=Option.some.inj e2;exact .inr ⟨_,us.toArray,_,hk,rfl,rfl,by rw[List.size_toArray];exact h1,by simpa using zcv h2⟩
mutual
theorem zqz {Pm:Params}(KX:K.In h) (ar:∀a∈A,ArgOb h A a):∀(d:WData) (v:Value),Well Pm h v d->plW d=true->OkU A v->Dw K (zcD K h A) (toV v) d
 |.none,_,x,_,_=>by
  cases x;exact .non
 |.bool b,_,x,_,_=>by
  cases x;exact .bl b
 |.int i,_,x,_,_=>by
  cases x;exact .int i
 |.str s,_,x,_,_=>by
  cases x;exact .str s
 |.bytes b,_,x,_,_=>by
  cases x;have z:=Dw.byt (K:=K) (H:=zcD K h A) b.toArray;exact z
 |.list ds,_,x,p,hu=>by
  obtain⟨a,vs,rfl,ho,hall⟩:=ziU x;obtain⟨h2,hs⟩:=zrx KX ar hu ho;exact .lst hs (zjS KX ar ds _ hall p h2)
 |.tuple ds,_,x,p,hu=>by
  obtain⟨a,vs,rfl,ho,hall⟩:=zhg x;obtain⟨h2,hs⟩:=zrA KX ar hu ho;exact .tup hs (zjS KX ar ds _ hall p h2)
 |.float _,_,_,p,_=>Bool.noConfusion (show false=true from p)
 |.dict _,_,_,p,_=>Bool.noConfusion (show false=true from p)
 |.bytearray _,_,_,p,_=>Bool.noConfusion (show false=true from p)
 |.set _,_,_,p,_=>Bool.noConfusion (show false=true from p)
 |.frozenset _,_,_,p,_=>Bool.noConfusion (show false=true from p)
 |.obj _ _,_,_,p,_=>Bool.noConfusion (show false=true from p)
theorem zjS {Pm:Params}(KX:K.In h) (ar:∀a∈A,ArgOb h A a):∀(ds:List WData) (vs:List Value),WellAll Pm h vs ds->zgT ds=true->(∀u∈vs,OkU A u)->zc3 K (zcD K h A) (vs.map toV) ds
 |[],_,x,_,_=>by
  cases x;exact .nil
 |d::ds,_,x,p,hu=>by
  obtain⟨v,vs,rfl,x1,x2⟩:=ziL x;have q:plW d=true/\zgT ds=true:=Bool.and_eq_true_iff.mp p;exact .cons (zqz KX ar d v x1 q.1 (hu _ (List.mem_cons_self ..))) (zjS KX ar ds vs x2 q.2 fun u m=>hu u (List.mem_cons_of_mem _ m))
end
end
theorem zmY {cm:Bool}{P:Program}{w:World}{K:PySem.W.Frag}{mg mb:Str->Option Value}{CX:CXT}{k:Nat}{fa:Addr}{fd:FuncData}{ps:List Str}{sp:Sp}{s₁:Shared}{vals:List Value}{ds:List WData}{R:PySem.W.WRecords}{cl:Str->Option Addr}{d0:WData}
  (KX:K.In s₁.heap) (hns:s₁.heap.Ns mainGlobals mg) (hb:s₁.heap.Ns builtinsNs mb) (hbb:∀x:Str,x ≠ "__name__" -> mb x=bootBuiltins x) (hlim:s₁.heap.NoLimit) (hg:s₁.gens=#[])
  (hwl:WellAll w.params s₁.heap vals ds) (hpl:zgT ds=true) (hwt:∀d∈ds,d.weight<=1048576) (hr:Room cm k callerA)
  (F:∀base:Heap,K.In base->base.Ns mainGlobals mg->FnOk P w K mg base CX cm k fa fd ps sp) (hbind:∀(s:Shared) (us:List Value),us.length=ps.length->BindsTo s fd ⟨us,[]⟩ (ps.zip us)) (hlen:ds.length=ps.length)
  (hsp:∀(H:Hp) (xs:List V),zkY H->zc3 K H xs ds->sp xs H (fun v H'=>Dw K H' v d0) fun _ _ _=>False)
  (hCX:∀H e s',CX [] H s₁ (fun _ _ _=>False) e s'->False) :
  codeAny (model P w) callerA (.call (.ref fa) ⟨vals,[]⟩) (fun r s'=>∃u as,r=.ok (.ret u)/\ReadsW R cl s'.heap u d0 as/\OldK s₁.heap s'.heap/\s'.os=s₁.os/\AllBare s'.gens) s₁:=by
 obtain⟨A,ho,ar⟩:=zfM ds vals hwl hpl hwt;have hO:zkY (zcD K s₁.heap A):=znf ar;have hok:HOk P w (zcD K s₁.heap A) s₁.heap:=zpN ar;have hS:=zjS KX ar ds vals hwl hpl ho;have hV:=zcv ho;have hK:∀b u,zcD K s₁.heap A b=some u->K.lookup b=none:=fun b u q=>(zg3 ar q).1;have noA:∀{b:Addr} {o:Obj} {es:Array DictEntry} {ep:Nat},s₁.heap.get? b=some o->o.data=.dict es ep->zcD K s₁.heap A b=none:=fun{b o es ep} e d=>by
  cases q:zcD K s₁.heap A b with
  |none=>rfl
  |some u =>
   obtain⟨_,vs,_,_,⟨e2,_⟩|⟨e2,_⟩⟩:=zg3 ar q
   ·rw[e2] at e;cases e;have d':Data.seq vs.toArray _=Data.dict es ep:=d;cases d'
   ·rw[e2] at e;cases e;have d':Data.seq vs.toArray _=Data.dict es ep:=d;cases d'
 generalize zcD K s₁.heap A=H at hO hok hS hK noA;have base_of:∀{b:Addr} {o:Obj},s₁.heap.get? b=some o->H b=none->(zjE s₁.heap H).get? b=some o:=fun e n=>zn9 e n;have nsK:∀{b:Addr} {m:Str->Option Value},s₁.heap.Ns b m->(zjE s₁.heap H).Ns b m:=fun{b m} ⟨o,es,ep,e,d,r⟩=>⟨o,es,ep,base_of e (noA e d),d,r⟩
 have nK:∀b o,K.lookup b=some o->H b=none:=fun b o e=>by
  cases q:H b with
  |none=>rfl
  |some u =>
   rw[hK b u q] at e;cases e
 have hKb:K.In (zjE s₁.heap H):=fun b o e=>base_of (KX b o e) (nK b o e);have hM:Mod K mg (zjE s₁.heap H):=⟨hKb,nsK hns,⟨mb,nsK hb,hbb⟩,let ⟨mc,h1,h2⟩:=hlim;⟨mc,nsK h1,h2⟩⟩
 have e0:Env0 P w K mg (zjE s₁.heap H) callerA [] s₁ H:=⟨rfl,hM,fun b o e=>zo1 e,Nat.le_of_eq (znn _ _),trivial,fun b hb=>absurd (show b∈([]:List Addr) from hb) (by simp),hok,.of_eq hg⟩
 have hl:vals.length=ps.length:=by rw[zbK hwl];exact hlen
 refine codeAny_mono ((F _ hKb (nsK hns)).run callerA [] s₁ H ⟨vals,[]⟩ vals (vals.map toV) _ _ hr e0 (hbind s₁ vals hl) hV (hsp H _ hO hS)) fun r s' x=>?_;cases r with
 |error e=>exact(hCX H e s' x).elim
 |ok fl =>
  cases fl with
  |next=>exact False.elim x
  |brk=>exact False.elim x
  |cont=>exact False.elim x
  |ret u =>
   obtain⟨v,H',os,bare,un,hok',r',q⟩:=x;have kept:∀b o,s₁.heap.get? b=some o->s'.heap.get? b=some o:=fun b o e=>by
    cases q2:H b with
    |none=>exact un.keep b o e q2 (by intro z;exact absurd (show b∈([]:List Addr) from z) (by simp)) (by simp)
    |some u2 =>
     rcases hO b with z|⟨ob,u3,z⟩
     ·rw[q2] at z;cases z
     ·have z2:=un.frzs b ob _ z;obtain⟨e1,_⟩:=hok b _ z;obtain⟨e2,_⟩:=hok' b _ z2;rw[e] at e1;cases e1;exact e2
   have KX':K.In s'.heap:=fun b o e=>kept b o (KX b o e);obtain⟨as,hrd⟩:=Dw.reads (R:=R) (cl:=cl) hok' KX' d0 v u q r';exact⟨u,as,rfl,hrd,OldK.of_keep kept,os,bare⟩
theorem zhe {ds:List WData}(h:WData.layableAll ds=true):∀d∈ds,d.weight<=1048576:=fun d hd =>
 (PySem.W.layableW_iff.mp (List.all_eq_true.mp h d hd)).2.2
theorem zib:∀(cs:List Codec) (a:Codec.denoteAll cs),(Codec.encAll cs a).length=cs.length
 |[],_=>rfl
 |c::cs,a=>by
  show(Codec.encAll cs a.2).length+1=cs.length+1;rw[zib cs a.2]
theorem zna {cm:Bool}{r:OpenSpec}{k:Nat}{q:Program}{loose:List Str}{XP:(Str->Option Value)->Heap->Prop}{YP:World->Heap->Prop}{d:DefRec}{K:Params->PySem.W.Frag}{CX:World->CXT}{ps:List Str}{sp:World->Sp}
  (hwell:r.wellSaid=true) (hdf:d.params.defaults=[]) (hlen:r.args.length=ps.length) (hr:Room cm k callerA)
  (hY:∀(w:World) (h:Heap),YP w h->(K w.params).In h)
  (F:∀(w:World) (mg:Str->Option Value) (fa:Addr) (h:Heap),YP w h->(K w.params).In h->h.Ns mainGlobals mg->mg d.name=some (.ref fa) ->
    ∃fd:FuncData,(∀(s:Shared) (us:List Value),us.length=ps.length->BindsTo s fd ⟨us,[]⟩ (ps.zip us)) /\
     ∀base:Heap,(K w.params).In base->base.Ns mainGlobals mg->FnOk r.prog w (K w.params) mg base (CX w) cm k fa fd ps (sp w))
  (hsp:∀(w:World) (H:Hp) (xs:List V) (a:Codec.denoteAll r.args),zkY H->Codec.withinAll r.args a=true->Codec.app r.args r.asked a=true->zc3 (K w.params) H xs (Codec.encAll r.args a) ->
    sp w xs H (fun v H'=>Dw (K w.params) H' v (r.ret.enc (Codec.app r.args r.f a))) fun _ _ _=>False)
  (hCX:∀(w:World) (H:Hp) (s:Shared) (e:Value) (s':Shared),CX w [] H s (fun _ _ _=>False) e s'->False) :
  PySem.W.WalkOS q loose XP YP r d [] (fun f vs=>PySem.call f vs):=by
 intro w s_0 s₁ mg mb G Y fa o pm cd doc dV kV ho hd hcd hD hmg hg args vals as hpre hlay hrd hwl hlo;obtain⟨a,e1,e2⟩:=PySem.W.os_pre_some hpre;obtain⟨e3,hwi⟩:=Codec.encAll_of_decAll r.args args a e1;subst e3;have KX:=hY w _ Y;obtain⟨fd,hb,hF⟩:=F w mg fa _ Y KX G.T.g hmg;refine PySem.W.enter_call (codeAny_mono (zmY (R:=[]) (cl:=classAt s_0.heap) (d0:=r.ret.enc (Codec.app r.args r.f a)) KX G.T.g G.T.b G.T.builtins G.T.nolimit hg hwl (ziI _ _) (zhe hlay) hr hF hb (by rw[zib];exact hlen)
  (fun H xs hO hS=>hsp w H xs a hO hwi e2 hS) fun H e s'=>hCX w H s₁ e s') fun r' s' hq=>?_)
 obtain⟨u,as',rfl,h1,h2,h3,h4⟩:=hq;exact⟨.inl ⟨u,_,as',rfl,fun _=>rfl,h1,(OpenSpec.post_iff hwell hwi _ _).mpr rfl,fun z=>Bool.noConfusion (show false=true from z)⟩,h2,h3,h4⟩
end L2
namespace L2
open PySem PySem.Spec PyProof.Rows
def xP (C:Addr) (fr:Bool) (dx:Option Addr) (tb:Value) (a:Addr) (h:Heap):Prop :=
 ∃vs sl,h.get? a=some ⟨.ref C,dx,.fields vs,sl⟩/\vs.size=6/\vs[1]?=some tb/\(fr=true->vs[2]?=some .none)
def xO (C:Addr) (fr:Bool) (dx:Option Addr) (tb:Value) (a:Addr):HO:=.ext (xP C fr dx tb a)
def tP (fl:Value) (a:Addr) (h:Heap):Prop:=∃o ts,h.get? a=some o/\o.data=.fields ts/\ts[3]?=some fl
def tO (fl:Value) (a:Addr):HO:=.ext (tP fl a)
def zmZ (H:Hp) (a C:Addr) (fr:Bool) (dx:Option Addr):Prop :=
 H a=some (xO C fr dx .none a)\/∃T fl,T≠a/\H a=some (xO C fr dx (.ref T) a)/\H T=some (tO fl T)
def LiveT (H:Hp) (a C:Addr) (fr:Bool) (dx:Option Addr) (fl:Value):Prop:=∃T,T≠a/\H a=some (xO C fr dx (.ref T) a)/\H T=some (tO fl T)
theorem LiveT.live {H:Hp}{a C:Addr}{fr:Bool}{dx:Option Addr}{fl:Value}(l:LiveT H a C fr dx fl):zmZ H a C fr dx:=let ⟨T,h⟩:=l;.inr ⟨T,fl,h⟩
def mask (H:Hp):Hp:=fun b=>match H b with
 |some (.ext _)=>none
 |o=>o
theorem zdw {H:Hp}{a:Addr}{φ ψ:Heap->Prop}(h:H a=some (.ext φ)\/H a=none):mask (upd H a (.ext ψ))=mask H:=by
 funext b;unfold mask upd;by_cases e:b=a
 ·subst e;rw[if_pos rfl];rcases h with h|h <;> rw[h]
 ·rw[if_neg e]
theorem zbc {H:Hp}{b:Addr}{o:HO}(h:mask H b=some o):H b=some o:=by
 unfold mask at h;split at h
 ·cases h
 ·exact h
theorem zbT {H:Hp}{b:Addr}{o:HO}(h:H b=some o) (n:∀φ,o≠.ext φ):mask H b=some o:=by
 unfold mask;split
 ·rename_i φ e;rw[h] at e;exact absurd (Option.some.inj e) (n φ)
 ·exact h
section
variable {P:Program}{w:World}{H:Hp}{h h':Heap}{a C:Addr}{fr:Bool}{dx:Option Addr}{tb fl:Value}
theorem zph (h1 h2:Heap) (p:xP C fr dx tb a h1) (k:∀o,h1.get? a=some o->h2.get? a=some o):xP C fr dx tb a h2 :=
 let ⟨vs,sl,e,r⟩:=p;⟨vs,sl,k _ e,r⟩
theorem zpQ (h1 h2:Heap) (p:tP fl a h1) (k:∀o,h1.get? a=some o->h2.get? a=some o):tP fl a h2 :=
 let ⟨o,ts,e,r⟩:=p;⟨o,ts,k _ e,r⟩
theorem zmw (p:xP C fr dx tb a h):ObjOk P w H h a (xO C fr dx tb a):=⟨p,let ⟨_,_,e,_⟩:=p;⟨_,e⟩,zph⟩
theorem zms (p:tP fl a h):ObjOk P w H h a (tO fl a):=⟨p,let ⟨_,_,e,_⟩:=p;⟨_,e⟩,zpQ⟩
theorem zmb:Mut (some (xO C fr dx tb a)):=True.intro
theorem zlo:Mut (some (tO fl a)):=True.intro
end
section
variable {X:Cx}{pins:List (Addr×Obj)}{σ:List (Option V)}{H H':Hp}{s:Shared}{h':Heap}{a C:Addr}{fr:Bool}{dx:Option Addr}{tb fl:Value}
theorem Inv.xo (I:Inv X pins σ H s) (e:H a=some (xO C fr dx tb a)):xP C fr dx tb a s.heap:=(I.hok a _ e).1
theorem Inv.to (I:Inv X pins σ H s) (e:H a=some (tO fl a)):tP fl a s.heap:=(I.hok a _ e).1
theorem zkm {P:Program}{w:World}{h:Heap}(x:HOk P w H h) (k:∀b u,(∃o,H b=some o)->h.get? b=some u->h'.get? b=some u):HOk P w H h':=fun b u e =>
 (x b u e).stay (fun c v hc q=>k c v (by
   rcases hc with z|z
   ·exact⟨u,by rw[z];exact e⟩
   ·exact⟨_,z⟩) q) (fun _ q=>q) fun _ _ q=>q
theorem Inv.slots (I:Inv X pins σ H s) (hs:Heap.SlotsOnly (frs X.stack) s.heap h'):Inv X pins σ H { s with heap:=h' }:=by
 have fr0:∀b,(∃o,H b=some o)->b∉frs X.stack:=fun b ⟨o,e⟩ z=>by
  rw[I.stkFree b z] at e;cases e
 refine I.call (g':=s.gens) (d':=s.drawn) (t':=s.toks) (ch:=[]) ⟨fun b o e _ hb _=>(hs.2.1 b hb).trans e,fun b o e _ _ _=>hs.2.2 b o e,fun b o _ n _=>n,fun b o e _=>?_,fun _ _ q=>q,fun _ _ _ q=>q,fun _ ps q=>⟨#[],by rw[q];simp⟩⟩
  (zkm I.hok fun b u hb e=>(hs.2.1 b (fr0 b hb)).trans e) I.bare (fun b z=>absurd z (by simp))
 obtain⟨sl,e'⟩:=hs.2.2 b o e;exact⟨_,e'⟩
theorem zfE {h:Heap}{o:Obj}{vs:Array Value}{i:Nat}{x:Value}(e:h.get? a=some o) (d:o.data=.fields vs):(h.update a (Obj.mapFields (·.setIfInBounds i x))).get? a=some { o with data:=.fields (vs.setIfInBounds i x) }:=by
 obtain⟨c,dd,dt,sl⟩:=o;obtain rfl:dt=.fields vs:=d;exact Heap.get?_update_self _ e rfl
end
section
variable {X:Cx}{pins:List (Addr×Obj)}{σ:List (Option V)}{H H':Hp}{s:Shared}{h':Heap}{a C:Addr}{fr:Bool}{dx:Option Addr}{tb fl:Value}{M:Model}{A:Around}{E:Value->Shared->Prop}
theorem zlV {fo:Option Addr}{Q:Unit->Shared->Prop}(I:Inv X pins σ H s) (l:LiveT H a C fr dx fl)
  (h:∀H' s',Inv X pins σ H' s'->mask H'=mask H->LiveT H' a C fr dx (fo.elim .none fun f=>rawInt f)->Q () s') :
  wpAny M A (setFlight (.ref a) fo) Q E s:=by
 obtain⟨T,hT,e1,e2⟩:=l;obtain⟨vs,sl,g1,sz,v1,v2⟩:=Inv.xo I e1;obtain⟨o,ts,g2,d2,t3⟩:=Inv.to I e2;have hsz:3<ts.size:=(Array.getElem?_eq_some_iff.mp t3).1;unfold setFlight;refine wpAny_bind (wpAny_field g1 rfl v1 ?_);rw[if_pos (show(Value.ref T != Value.none)=true from by simp)];refine wpAny_setField g2 d2 hsz ?_;have mu:Mut (H T):=by rw[e2];exact zlo
 have g3:=zfE (i:=3) (x:=fo.elim Value.none fun f=>rawInt f) g2 d2;refine h (upd H T (tO _ T)) _ (I.write (x:=T) (e:=T) (t':=s.toks) mu (.inl rfl) (fun b u hb q=>?_) ⟨_,g3⟩ (zms ⟨_,_,g3,rfl,by simp[hsz]⟩)) (zdw (φ:=tP fl T) (.inl e2)) ⟨T,hT,?_,zc⟩
 ·rw[Heap.get?_update_other _ _ (Ne.symm hb)];exact q
 ·rw[zd (Ne.symm hT)];exact e1
theorem zn6 {base:Heap}{env env0:Env}{rest:List Env}{L:Addr}{Q:Value->Shared->Prop}(hfr:A.frames=some (env0::rest)) (hl:s.heap.FunFrames base (env0::rest)) (hf0:env0.frame=some L) (hf:env.frame=some L)
  (h:∀h1,Heap.SlotsOnly ((env0::rest).filterMap (·.frame)) s.heap h1->Q (.ref L) { s with heap:=h1 }):wpAny M A (PySem.frameOf env) Q E s:=by
 unfold PySem.frameOf;refine wpAny_bind (wpAny_frameEnvs hfr ?_);have dw:((env0::rest).dropWhile fun x=>x.frame != env.frame)=env0::rest:=by simp[List.dropWhile,hf,hf0]
 rw[dw];unfold frameObject;refine wpAny_bind (wpAny_bind (wpAny_readyFrames_fun hl fun h1 hs1=>wpAny_pure ?_));rw[hf0];exact wpAny_pure (h h1 hs1)
theorem zld {head:Value}{b:Bool}{L:Addr}{env env0:Env}{rest:List Env}{Q:Unit->Shared->Prop}(I:Inv X pins σ H s) (hfr:A.frames=some X.stack) (hst:X.stack=env0::rest) (hf0:env0.frame=some L) (hf:env.frame=some L) (e1:H a=some (xO C fr dx tb a))
  (h:∀H' s',Inv X pins σ H' s'->mask H'=mask H->LiveT H' a C fr dx (rawInt L)->Q () s') :
  wpAny M A (do let z <-PySem.frameOf env;let pl <-entryPlaceOf L b;let y <-EntryCells.newEntry head z .none (rawInt L) .none pl;setField (.ref a) 1 y) Q E s:=by
 have hl:=I.stack;rw[hst] at hl hfr;refine wpAny_bind (zn6 hfr hl hf0 hf fun h1 hs1=>?_);have I1:Inv X pins σ H { s with heap:=h1 }:=Inv.slots I (by rw[hst];exact hs1);refine wpAny_bind (wpAny_entryPlaceOf fun pl hpl=>?_);unfold EntryCells.newEntry newFields;refine wpAny_bind (wpAny_newObj_type ?_ (hpl.sizeOk5 _ _ _ _ _));have gT:=Heap.get?_push_size h1 (o:={ cls:=.type "traceback",dict:=none,data:=.fields ([head,.ref L,.none,rawInt L,.none]++(if pl.isEmpty then List.replicate 6 Value.none else pl)).toArray }) rfl;have hn:H h1.objs.size=none:=I1.hok.fresh (Nat.le_refl _);have I2:=I1.laid (t':=s.toks) (a:=h1.objs.size) (o:=tO (rawInt L) h1.objs.size) (fun b u e=>Heap.get?_push_of_some _ e) (Nat.le_refl _)
  (zms ⟨_,_,gT,rfl,by simp⟩)
 have ne:a≠h1.objs.size:=zg e1 hn;have e2:upd H h1.objs.size (tO (rawInt L) h1.objs.size) a=some (xO C fr dx tb a):=by
  rw[zd ne];exact e1
 obtain⟨vs,sl,g1,sz,v1,v2⟩:=Inv.xo I2 e2;refine wpAny_setField g1 rfl (by omega) ?_;have mu:Mut (upd H h1.objs.size (tO (rawInt L) h1.objs.size) a):=by rw[e2];exact zmb
 have g3:=zfE (i:=1) (x:=Value.ref h1.objs.size) g1 rfl;refine h (upd (upd H h1.objs.size (tO (rawInt L) h1.objs.size)) a (xO C fr dx (.ref h1.objs.size) a)) _
  (I2.write (x:=a) (e:=a) (t':=s.toks) mu (.inl rfl) (fun b u hb q=>?_) ⟨_,g3⟩ (zmw ⟨_,sl,g3,by simp[sz],by simp[sz],fun z=>?_⟩))
  ((zdw (φ:=xP C fr dx tb a) (.inl e2)).trans (zdw (φ:=fun _=>True) (.inr hn))) ⟨h1.objs.size,Ne.symm ne,zc,?_⟩
 ·rw[Heap.get?_update_other _ _ (Ne.symm hb)];exact q
 ·rw[Array.getElem?_setIfInBounds_ne (by decide)];exact v2 z
 ·rw[zd (Ne.symm ne)];exact zc
theorem zg5 {L:Addr}{env env0:Env}{rest:List Env}{Q:Unit->Shared->Prop}(I:Inv X pins σ H s) (hfr:A.frames=some X.stack) (hst:X.stack=env0::rest) (hf0:env0.frame=some L) (hf:env.frame=some L) (l:zmZ H a C fr dx)
  (h:∀H' s',Inv X pins σ H' s'->mask H'=mask H->LiveT H' a C fr dx (rawInt L)->Q () s') :
  wpAny M A (noteFrame (.ref a) env) Q E s:=by
 unfold noteFrame;simp only[hf];rcases l with e1|⟨T,fl,hT,e1,e2⟩
 ·obtain⟨vs,sl,g1,sz,v1,v2⟩:=Inv.xo I e1;refine wpAny_bind (wpAny_field g1 rfl v1 ?_);rw[if_neg (by decide)];exact zld I hfr hst hf0 hf e1 h
 ·obtain⟨vs,sl,g1,sz,v1,v2⟩:=Inv.xo I e1;obtain⟨o,ts,g2,d2,t3⟩:=Inv.to I e2;have hsz:3<ts.size:=(Array.getElem?_eq_some_iff.mp t3).1;refine wpAny_bind (wpAny_field g1 rfl v1 ?_);rw[if_pos (show(Value.ref T != Value.none)=true from by simp)];refine wpAny_bind (wpAny_field g2 d2 t3 ?_);by_cases hfl:(fl == rawInt L)=true
  ·rw[if_pos hfl];obtain rfl:=eq_of_beq hfl;exact wpAny_pure (h H s I rfl ⟨T,hT,e1,e2⟩)
  ·rw[if_neg hfl];refine wpAny_bind (wpAny_setField g2 d2 hsz ?_);have mu:Mut (H T):=by rw[e2];exact zlo
   have g3:=zfE (i:=3) (x:=Value.none) g2 d2;have I1:=I.write (x:=T) (e:=T) (t':=s.toks) mu (.inl rfl) (h':=s.heap.update T (Obj.mapFields (·.setIfInBounds 3 .none))) (o:=tO .none T)
    (fun b u hb q=>by rw[Heap.get?_update_other _ _ (Ne.symm hb)];exact q) ⟨_,g3⟩ (zms ⟨_,_,g3,rfl,by simp[hsz]⟩)
   have e3:upd H T (tO .none T) a=some (xO C fr dx (.ref T) a):=by
    rw[zd (Ne.symm hT)];exact e1
   exact zld I1 hfr hst hf0 hf e3 fun H' s' I' m l'=>h H' s' I' (m.trans (zdw (φ:=tP fl T) (.inl e2))) l'
theorem zkR {L:Addr}{env env0:Env}{rest:List Env}{Q:Unit->Shared->Prop}(I:Inv X pins σ H s) (hfr:A.frames=some X.stack) (hst:X.stack=env0::rest) (hf0:env0.frame=some L) (hf:env.frame=some L) (l:zmZ H a C fr dx)
  (h:∀H' s',Inv X pins σ H' s'->mask H'=mask H->LiveT H' a C fr dx .none->Q () s') :
  wpAny M A (noteFrame (.ref a) env) (fun _ s1=>wpAny M A (setFlight (.ref a) none) Q E s1) E s :=
 zg5 I hfr hst hf0 hf l fun H1 s1 I1 m1 l1=>zlV I1 l1 fun H2 s2 I2 m2 l2=>h H2 s2 I2 (m2.trans m1) l2
theorem zll {L:Addr}{env env0:Env}{rest:List Env}{Q:Unit->Shared->Prop}(I:Inv X pins σ H s) (hfr:A.frames=some X.stack) (hst:X.stack=env0::rest) (hf0:env0.frame=some L) (hf:env.frame=some L) (l:zmZ H a C fr dx)
  (h:∀H' s',Inv X pins σ H' s'->mask H'=mask H->LiveT H' a C fr dx .none->Q () s') :
  wpAny M A (leaving env (.ref a)) Q E s:=by
 unfold leaving;exact wpAny_bind (zkR I hfr hst hf0 hf l h)
end
def CXo (P:Program) (w:World):CXT:=fun outer H s E e s'=>∃a C fr dx H',e=.ref a/\s'.os=s.os/\AllBare s'.gens/\Un (frs outer) [] H H' s.heap s'.heap/\HOk P w H' s'.heap/\zmZ H' a C fr dx/\E (C,fr) dx (mask H')
abbrev WX:=St->XK
structure Takes (X:Cx) (W:WX):Prop where
 th:∀(pins:List (Addr×Obj)) (σ:St) (H:Hp) (s:Shared) (a C:Addr) (fr:Bool) (dx:Option Addr),Inv X pins σ H s->zmZ H a C fr dx->W σ (C,fr) dx (mask H)->X.xe (.ref a) s
 po:PassesOwn (model X.prog X.w) X.A X.env X.xe
theorem Takes.passes {X:Cx}{W:WX}(t:Takes X W):zcF (CXo X.prog X.w) X W:=fun pins σ H s e s' I ⟨a,C,fr,dx,H',he,os,bare,un,hok,l,q⟩=>by
 subst he;exact t.th pins σ H' s' a C fr dx (I.call' os un hok bare (fun b z=>absurd z (by simp))) l q
section
variable {P:Program}{w:World}{K:PySem.W.Frag}{mg:Str->Option Value}{base:Heap}
theorem takes_cx {cm:Bool}{N:List Str}{qual:Str}{scope:Scope}{f:Addr}{cd:Value}{A:Around}{outer:List Env}{s:Shared}{H:Hp}{E:XK} :
  Takes (zle (CXo P w) cm P w K mg base N qual scope f cd A outer s H E) (fun _=>E):=by
 refine⟨fun pins σ H1 s1 a C fr dx I l q=>?_,?_⟩
 ·exact zll (X:=zle (CXo P w) cm P w K mg base N qual scope f cd A outer s H E) I I.ok.frames rfl rfl rfl l fun H2 s2 I2 m2 l2 =>
   ⟨a,C,fr,dx,H2,rfl,I2.os,I2.bare,I2.base,I2.hok,l2.live,by rw[m2];exact q⟩
 ·exact PassesOwn.leaving (Q₁:=fun e s''=>CXo P w outer H s E e s'') (E₁:=fun e s''=>CXo P w outer H s E e s'')
theorem zF {cm:Bool}{x qual:Str}{st:Stmt}{f:Addr}{fd:FuncData}{N ps:List Str}{k:Nat}{sp:Sp}(F:Fun K x qual st f fd) (S:zt N ps (zk st)) (len:∀vs H Q E,sp vs H Q E->vs.length=ps.length)
  (hbody:∀(cdv:Value) (A:Around) (outer:List Env) (s:Shared) (H:Hp) (vs:List V) (Q:VK) (E:XK),Room cm k (A.deeper (envOfC qual (zk st) s.heap.objs.size f cdv))->sp vs H Q E ->
    ∃t,PSs (zle (CXo P w) cm P w K mg base N qual (zk st) f cdv A outer s H E) (ZW st) t/\t { nx:=fun _ H'=>Q .non H',rt:=Q } (start N vs) H):FnOk P w K mg base (CXo P w) cm (k+1) f fd ps sp:=by
 obtain⟨oc,od,kV,doc,pm,an,cdv,ct,osl,rfl,lk,hcd⟩:=F.ex;exact zra lk hcd S len fun A outer s H vs Q E hr hsp=>hbody cdv A outer s H vs Q E hr hsp
end
structure zno (K:PySem.W.Frag) (C:Addr):Prop where
 base:PySem.W.mroIn K C (.type "BaseException")=some true
 ty:PySem.W.typeIn K (.ref C)=some (.type "type")
def zlI (K:PySem.W.Frag) (W:WX) (te:TE):TS:=fun _ σ H=>te σ H fun x H1=>∃a C dx,x=.ref a/\H1 a=some (xO C true dx .none a)/\zno K C/\W σ (C,true) dx (mask H1)
section
variable {X:Cx}{W:WX}{e:Expr}{te:TE}{pos:Pos}
theorem zQ (tk:Takes X W) (hc:X.calm=true) (he:PE X e te):PS X (.Raise (some e) none pos) (zlI X.K W te):=by
 intro pins s σ H D I h;show wpAny _ X.A (do standAt pos;raiseStmt X.env (some (do let v <-eval e X.env;standAt pos;pure v)) none) _ X.xe s;refine wpAny_bind (wpAny_standAt ?_);unfold raiseStmt;dsimp only;refine wpAny_bind (wpAny_bind (thn (he pins s σ H _ I h) fun v s1 ⟨x,H1,I1,rx,a,C,dx,ex,ea,er,q⟩=>wpAny_bind (wpAny_standAt (wpAny_pure ?_))));subst ex;obtain rfl:v=Value.ref a:=rx;obtain⟨vs,sl,g1,sz,v1,v2⟩:=I1.xo ea;have nt:∀{Q':Bool->Shared->Prop},Q' false s1->wpAny (model X.prog X.w) X.A (isType (.ref a)) Q' X.xe s1:=by
  intro Q' hq;simp only[isType,loadHead];exact wpAny_bind (wpAny_loadPart g1 (wpAny_pure hq))
 have ty:PySem.W.Looks (model X.prog X.w) s1.heap (typeOf (.ref a)) (.ref C):=(PySem.W.Looks.ld g1).andThen .now;have sb:PySem.W.Looks (model X.prog X.w) s1.heap (isSubtype (.ref C) (.type "BaseException")) true:=PySem.W.looks_mroIn I1.kIn er.base;have tt:PySem.W.Looks (model X.prog X.w) s1.heap (typeOf (.ref C)) (.type "type"):=PySem.W.looks_typeIn I1.kIn er.ty;refine wpAny_bind (wpAny_pure ?_);dsimp only;refine wpAny_bind (wpAny_holding ?_);unfold excFromValue isExcClass;refine wpAny_bind (wpAny_bind (nt ?_));simp only[Bool.false_eq_true,if_false];refine wpAny_pure ?_;simp only[Bool.false_eq_true,if_false];unfold isInstance;refine wpAny_bind (wpAny_bind (ty.here (sb.here ?_)));simp only[if_true];refine wpAny_pure ?_;refine wpAny_bind (nt ?_);simp only[Bool.false_eq_true,if_false];unfold raisedInstance;refine wpAny_bind (wpAny_bind (ty.here (wpAny_bind (tt.here ?_))));rw[if_pos (by decide)];refine wpAny_pure ?_;unfold setFlight raiseNew;refine wpAny_bind (wpAny_bind (wpAny_field g1 rfl v1 ?_));rw[if_neg (by decide)];refine wpAny_pure (wpAny_bind (wpAny_handled ?_));rw[I1.ok.hd hc];have fin:X.xe (.ref a) s1:=tk.th pins σ H1 s1 a C true dx I1 (.inl ea) q
 first
  |exact wpAny_throw fin
  |exact wpAny_bind (wpAny_pure (wpAny_throw fin))
end
theorem ziy:entryFor table "proto.unchain" = some Builtin.«proto.unchain»:=entryFor_of_fast (by kernel_rfl)
section
variable {X:Cx}{pins:List (Addr×Obj)}{σ:List (Option V)}{H:Hp}{s:Shared}{a C:Addr}{fr:Bool}{dx:Option Addr}{tb:Value}{M:Model}{A:Around}{E:Value->Shared->Prop}
theorem zkb {i:Nat}{x:Value}{fr':Bool}{Q:Unit->Shared->Prop}(I:Inv X pins σ H s) (e:H a=some (xO C fr dx tb a)) (hi:i<6) (h1:i≠1) (h2:fr'=true->fr=true/\i≠2)
  (h:∀s',Inv X pins σ (upd H a (xO C fr' dx tb a)) s'->Q () s'):wpAny M A (setField (.ref a) i x) Q E s:=by
 obtain⟨vs,sl,g1,sz,v1,v2⟩:=I.xo e;refine wpAny_setField g1 rfl (by omega) ?_;have mu:Mut (H a):=by rw[e];exact zmb
 have g3:=zfE (i:=i) (x:=x) g1 rfl;refine h _ (I.write (x:=a) (e:=a) (t':=s.toks) mu (.inl rfl) (fun b u hb q=>?_) ⟨_,g3⟩ (zmw ⟨_,sl,g3,by simp[sz],?_,fun z=>?_⟩))
 ·rw[Heap.get?_update_other _ _ (Ne.symm hb)];exact q
 ·rw[Array.getElem?_setIfInBounds_ne h1];exact v1
 ·rw[Array.getElem?_setIfInBounds_ne (h2 z).2];exact v2 (h2 z).1
end
def zmI (K:PySem.W.Frag) (W:WX) (b:Addr) (te tc:TE):TS:=fun _ σ H=>te σ H fun x H1=>tc σ H1 fun y H2=>∃a C dx Cb dxb tbb,x=.ref a/\y=.ref b/\a≠b/\H2 a=some (xO C true dx .none a)/\H2 b=some (xO Cb true dxb tbb b) /\
 zno K C/\zno K Cb/\W σ (C,false) dx (mask H2)
section
variable {X:Cx}{W:WX}{e c:Expr}{te tc:TE}{pos:Pos}{b:Addr}
theorem zmX (tk:Takes X W) (hh:X.A.handled=some (.ref b)) (he:PE X e te) (hcs:PE X c tc):PS X (.Raise (some e) (some c) pos) (zmI X.K W b te tc):=by
 intro pins s σ H D I h;show wpAny _ X.A (do standAt pos;raiseStmt X.env (some (do let v <-eval e X.env;standAt pos;pure v)) (some (do let v <-eval c X.env;standAt pos;pure v))) _ X.xe s;refine wpAny_bind (wpAny_standAt ?_);unfold raiseStmt;dsimp only;refine wpAny_bind (wpAny_bind (thn (he pins s σ H _ I h) fun v s0 ⟨x,H0,I0,rx,q0⟩=>wpAny_bind (wpAny_standAt (wpAny_pure ?_))));refine wpAny_bind (wpAny_holding (wpAny_bind (thn (hcs pins s0 σ H0 _ I0 q0) fun u s1 ⟨y,H1,I1,ry,a,C,dx,Cb,dxb,tbb,ex,ey,nab,ea,eb,er,erb,q⟩=>wpAny_bind (wpAny_standAt (wpAny_pure ?_)))));subst ex ey;obtain rfl:v=Value.ref a:=rx;obtain rfl:u=Value.ref b:=ry;have nt:∀{z:Addr} {Cz:Addr} {fz:Bool} {dz:Option Addr} {tz:Value} {Q':Bool->Shared->Prop},H1 z=some (xO Cz fz dz tz z)->Q' false s1->wpAny (model X.prog X.w) X.A (isType (.ref z)) Q' X.xe s1:=by
  intro z Cz fz dz tz Q' ez hq;obtain⟨_,_,g,_⟩:=I1.xo ez;simp only[isType,loadHead];exact wpAny_bind (wpAny_loadPart g (wpAny_pure hq))
 have ofv:∀{z:Addr} {Cz:Addr} {fz:Bool} {dz:Option Addr} {tz:Value} {w:String} {Q':Value->Shared->Prop},H1 z=some (xO Cz fz dz tz z)->zno X.K Cz->Q' (.ref z) s1->wpAny (model X.prog X.w) X.A (excFromValue (.ref z) w) Q' X.xe s1:=by
  intro z Cz fz dz tz w Q' ez rz hq;obtain⟨_,_,g,_⟩:=I1.xo ez;have ty:PySem.W.Looks (model X.prog X.w) s1.heap (typeOf (.ref z)) (.ref Cz):=(PySem.W.Looks.ld g).andThen .now;have sb:PySem.W.Looks (model X.prog X.w) s1.heap (isSubtype (.ref Cz) (.type "BaseException")) true:=PySem.W.looks_mroIn I1.kIn rz.base;unfold excFromValue isExcClass;refine wpAny_bind (wpAny_bind (nt ez ?_));simp only[Bool.false_eq_true,if_false];refine wpAny_pure ?_;simp only[Bool.false_eq_true,if_false];unfold isInstance;refine wpAny_bind (wpAny_bind (ty.here (sb.here ?_)));simp only[if_true];exact wpAny_pure hq
 refine wpAny_bind (wpAny_pure ?_);refine wpAny_bind (wpAny_holding (ofv ea er ?_));dsimp only;rw[if_neg (by simp)];refine wpAny_bind (wpAny_holding (ofv eb erb ?_));refine wpAny_bind (zkb (fr':=true) I1 ea (by decide) (by decide) (fun _=>⟨rfl,by decide⟩) fun s2 I2=>?_);refine wpAny_bind (zkb (fr':=true) I2 zc (by decide) (by decide) (fun _=>⟨rfl,by decide⟩) fun s3 I3=>?_);rw[yB] at I3;have e3:upd H1 a (xO C true dx .none a) a=some (xO C true dx .none a):=zc;have eb3:upd H1 a (xO C true dx .none a) b=some (xO Cb true dxb tbb b):=by
  rw[zd (Ne.symm nab)];exact eb
 obtain⟨vs,sl,g1,sz,v1,v2⟩:=I3.xo e3;have ty:PySem.W.Looks (model X.prog X.w) s3.heap (typeOf (.ref a)) (.ref C):=(PySem.W.Looks.ld g1).andThen .now;have tt:PySem.W.Looks (model X.prog X.w) s3.heap (typeOf (.ref C)) (.type "type"):=PySem.W.looks_typeIn I3.kIn er.ty;have nt3:∀{Q':Bool->Shared->Prop},Q' false s3->wpAny (model X.prog X.w) X.A (isType (.ref a)) Q' X.xe s3:=by
  intro Q' hq;simp only[isType,loadHead];exact wpAny_bind (wpAny_loadPart g1 (wpAny_pure hq))
 refine wpAny_bind (nt3 ?_);simp only[Bool.false_eq_true,if_false];unfold raisedInstance;refine wpAny_bind (wpAny_bind (ty.here (wpAny_bind (tt.here ?_))));rw[if_pos (by decide)];refine wpAny_pure ?_;unfold setFlight raiseNew;refine wpAny_bind (wpAny_bind (wpAny_field g1 rfl v1 ?_));rw[if_neg (by decide)];refine wpAny_pure (wpAny_bind (wpAny_handled ?_));rw[hh];dsimp only;rw[if_pos (show(Value.ref b != Value.ref a)=true by simp[Ne.symm nab])];obtain⟨ws,sl',g2,sz',w1,w2⟩:=I3.xo eb3;refine wpAny_bind (wpAny_holding (wpAny_runValue (codeAny_builtin ziy ?_)));unfold Builtin.«proto.unchain»;dsimp only;refine wpAny_bind (wpAny_field g2 rfl (w2 rfl) ?_);rw[if_pos (by decide)];refine wpAny_pure ?_;refine wpAny_bind ?_;show wpAny _ _ (setField (.ref a) 2 (.ref b)) _ _ _;refine zkb (fr':=false) I3 e3 (by decide) (by decide) (fun z=>nomatch z) fun s4 I4=>?_;rw[yB] at I4;have fin:X.xe (.ref a) s4:=tk.th pins σ _ s4 a C false dx I4 (.inl zc) (by rw[show mask (upd H1 a (xO C false dx .none a))=mask H1 from zdw (φ:=xP C true dx .none a) (.inl ea)];exact q)
 first
  |exact wpAny_throw fin
  |exact wpAny_bind (wpAny_pure (wpAny_throw fin))
end
abbrev Cx.sub (X:Cx) (A':Around) (cm:Bool) (pn':List (Addr×Obj)) (xe':Value->Shared->Prop):Cx:={ X with A:=A',calm:=cm,pn:=pn',xe:=xe' }
section
variable {X:Cx}{pins pins':List (Addr×Obj)}{σ:List (Option V)}{H:Hp}{s:Shared}{A':Around}{cm:Bool}{xe':Value->Shared->Prop}
theorem Inv.into (I:Inv X pins σ H s) (hA:A'.frames=X.A.frames) (hc:cm=true->A'.handled=none):Inv (X.sub A' cm (X.pn++pins) xe') [] σ H s :=
 ⟨⟨I.ok.mod,I.ok.kind,I.ok.glob,I.ok.blt,I.ok.above,I.ok.inj,I.ok.has,I.ok.cab,hc,hA.trans I.ok.frames,I.ok.stk,I.ok.exf,I.ok.bs,I.ok.bsz,I.ok.noex,I.ok.exfs,I.ok.funs,I.ok.frf⟩,I.os,I.bare,I.base,I.loc,I.cell,I.free,I.freeC,
   fun p hp=>I.pin p (by simpa using hp),I.hok,I.len⟩
theorem Inv.back (ok:X.Ok) (I:Inv (X.sub A' cm (X.pn++pins) xe') pins' σ H s):Inv X pins σ H s :=
 ⟨ok,I.os,I.bare,I.base,I.loc,I.cell,I.free,I.freeC,fun p hp=>I.pin p (List.mem_append_left _ hp),I.hok,I.len⟩
theorem SP.back {D:zhI}{f:Flow}{s':Shared}(ok:X.Ok) (h:SP (X.sub A' cm (X.pn++pins) xe') pins' D f s'):SP X pins D f s':=by
 cases f with
 |next=>obtain⟨a,b,I,q⟩:=h;exact⟨a,b,I.back ok,q⟩
 |brk=>obtain⟨a,b,I,q⟩:=h;exact⟨a,b,I.back ok,q⟩
 |cont=>obtain⟨a,b,I,q⟩:=h;exact⟨a,b,I.back ok,q⟩
 |ret u=>obtain⟨v,a,b,I,r,q⟩:=h;exact⟨v,a,b,I.back ok,r,q⟩
theorem zmT {M:Model}{A:Around}{E:Value->Shared->Prop}{i:Nat}{n:Str}{pos:Pos}{v:V}{Q:Unit->Shared->Prop}(I:Inv X pins σ H s) (hN:X.N.Nodup) (hi:X.N[i]?=some n) (hk:X.env.scope.names.lookup n=some .local) (hv:σ[i]?=some (some v))
  (h:∀s',Inv X pins (σ.set i none) H s'->Q () s'):wpAny M A (unbindBehindTheSuite X.env n pos) Q E s:=by
 obtain⟨m,hn,hl⟩:=id I.loc;obtain⟨u,ru,lu⟩:=hl i n v hi hv (.inl hk);have hm:m n=some u:=by
  rcases lu with⟨_,z⟩|⟨z,_⟩
  ·exact z
  ·have z':X.env.scope.names.lookup n=some .cell\/X.env.scope.names.lookup n=some .free:=z;rw[hk] at z';rcases z' with q|q <;> cases q
 have hcls:(X.env.scope.kind == .class||(X.env.scope.kind == .module&&X.env.locals != X.env.globals))=false:=by rw[I.ok.kind];rfl
 unfold unbindBehindTheSuite;refine wpAny_onRaise (wpAny_unbindName_local hk hn hm hcls fun h' u' hn' hs=>h _ ?_);have ltL:∀b o,X.s_0.heap.get? b=some o->b≠X.env.locals:=fun b o e=>Nat.ne_of_lt (Nat.lt_of_lt_of_le (Heap.lt_size e) I.ok.above);refine⟨I.ok,I.os,I.bare,⟨fun b o e n' hb hx=>?_,fun b o e n' hb hx=>?_,I.base.free,fun b o e hx=>?_,I.base.tups,I.base.frzs,I.base.tbls⟩,⟨_,hn',fun j y w e1 e2 e3=>?_⟩,fun y c e=>?_,I.free,I.freeC,fun p hp=>?_,?_,by simpa using I.len⟩
 ·exact(hs.2 b (ltL b o e)).trans (I.base.keep b o e n' hb hx)
 ·obtain⟨sl,e1⟩:=I.base.slot b o e n' hb hx;exact⟨sl,(hs.2 b (ltL b o e)).trans e1⟩
 ·obtain⟨o',e1⟩:=I.base.there b o e hx;exact⟨o',(hs.2 b (ltL b o e)).trans e1⟩
 ·by_cases hj:j=i
  ·subst hj;rw[List.getElem?_set_self (List.getElem?_eq_some_iff.mp hv).1] at e2;cases e2
  ·rw[List.getElem?_set_ne (Ne.symm hj)] at e2;obtain⟨u2,r2,q⟩:=hl j y w e1 e2 e3;refine⟨u2,r2,?_⟩;rcases q with⟨k,e⟩|⟨k,c,e,z⟩
   ·refine .inl ⟨k,?_⟩;have ny:y≠n:=fun e=>hj (ze5 hN e1 (e ▸ hi));simp[ny,e]
   ·exact .inr ⟨k,c,e,z.sameBut hs (I.cne y c e)⟩
 ·obtain⟨w',z⟩:=I.cell y c e;exact⟨w',z.sameBut hs (I.cne y c e)⟩
 ·obtain⟨e,n',ne,nf,d⟩:=I.pin p hp;exact⟨(hs.2 p.1 ne).trans e,n',ne,nf,d⟩
 ·refine zkm I.hok fun b u2 ⟨o,hb⟩ e=>(hs.2 b fun z=>?_).trans e;rw[z,I.free] at hb;cases hb
theorem zfs {M:Model}{A:Around}{E:Value->Shared->Prop}{i:Nat}{n:Str}{pos:Pos}{Q:Unit->Shared->Prop}(I:Inv X pins σ H s) (hN:X.N.Nodup) (hi:X.N[i]?=some n) (hk:X.env.scope.names.lookup n=some .local)
  (h:∀s',Inv X pins (σ.set i none) H s'->Q () s'):wpAny M A (do bindName X.env n .none;unbindBehindTheSuite X.env n pos) Q E s:=by
 have hl:i<σ.length:=by rw[I.len];exact(List.getElem?_eq_some_iff.mp hi).1
 refine wpAny_bind (wpAny_bindName (zdP (v:=V.non) I hN hi (.inl hk) rfl (fun s1 I1=>?_) (.inr hk)));refine zmT (v:=V.non) I1 hN hi hk (by rw[List.getElem?_set_self hl]) fun s2 I2=>?_;rw[List.set_set] at I2;exact h s2 I2
end
abbrev HR:=Addr->Addr->Bool->Option Addr->zhI->St->Hp->Prop
def PH (X:Cx) (hs:List ExceptHandler) (t:HR):Prop :=
 ∀(pins:List (Addr×Obj)) (s:Shared) (σ:St) (H:Hp) (D:zhI) (a C:Addr) (fr:Bool) (dx:Option Addr),Inv X pins σ H s->LiveT H a C fr dx .none->t a C fr dx D σ H ->
  wpAny (model X.prog X.w) X.A (handleBy (.ref a) X.env hs) (SP X pins D) X.xe s
section
variable {X:Cx}{pins pins':List (Addr×Obj)}{σ:List (Option V)}{H:Hp}{s:Shared}{M:Model}{A:Around}{E:Value->Shared->Prop}{a C:Addr}{fr:Bool}{dx:Option Addr}{fl:Value}
theorem zoQ {H:Hp}{a:Addr}{o:HO}(h:H a=some o):upd H a o=H:=by
 funext b;by_cases e:b=a
 ·subst e;rw[zc,h]
 ·rw[zd e]
theorem znZ {Q:Unit->Shared->Prop}(I:Inv X pins σ H s) (l:LiveT H a C fr dx .none) (h:∀s',Inv X pins σ H s'->Q () s'):wpAny M A (setFlight (.ref a) none) Q E s:=by
 obtain⟨T,hT,e1,e2⟩:=l;obtain⟨vs,sl,g1,sz,v1,v2⟩:=Inv.xo I e1;obtain⟨o,ts,g2,d2,t3⟩:=Inv.to I e2;have hsz:3<ts.size:=(Array.getElem?_eq_some_iff.mp t3).1;unfold setFlight;refine wpAny_bind (wpAny_field g1 rfl v1 ?_);rw[if_pos (show(Value.ref T != Value.none)=true from by simp)];refine wpAny_setField g2 d2 hsz ?_;have mu:Mut (H T):=by rw[e2];exact zlo
 have g3:=zfE (i:=3) (x:=Value.none) g2 d2;have I':=I.write (x:=T) (e:=T) (t':=s.toks) mu (.inl rfl) (h':=s.heap.update T (Obj.mapFields (·.setIfInBounds 3 .none))) (o:=tO .none T)
  (fun b u hb q=>by rw[Heap.get?_update_other _ _ (Ne.symm hb)];exact q) ⟨_,g3⟩ (zms ⟨_,_,g3,rfl,by simp[hsz]⟩)
 rw[zoQ e2] at I';exact h _ I'
theorem zf6 {α:Type}{what:String}{env:Env}{Q:α->Shared->Prop}(I:Inv X pins σ H s) (l:LiveT H a C fr dx fl)
  (h:∀H' s',Inv X pins σ H' s'->mask H'=mask H->LiveT H' a C fr dx (env.frame.elim .none fun f=>rawInt f)->E (.ref a) s'):wpAny M A (PySem.passOn what (.ref a) env:Sem α) Q E s:=by
 have l':=l;obtain⟨T,hT,e1,e2⟩:=l;obtain⟨vs,sl,g1,sz,v1,v2⟩:=I.xo e1;unfold PySem.passOn;refine wpAny_bind (wpAny_field g1 rfl v1 ?_);rw[if_neg (by simp)];exact wpAny_bind (zlV I l' fun H' s' I' m' l2=>wpAny_throw (h H' s' I' m' l2))
theorem zpg {env:Env}(I:Inv X pins σ H s) (l:LiveT H a C fr dx fl)
  (h:∀H' s',Inv X pins σ H' s'->mask H'=mask H->LiveT H' a C fr dx (env.frame.elim .none fun f=>rawInt f)->E (.ref a) s'):cameBackBy M A env E (.ref a) s:=by
 have l':=l;obtain⟨T,hT,e1,e2⟩:=l;obtain⟨vs,sl,g1,sz,v1,v2⟩:=I.xo e1;unfold cameBackBy;refine wpAny_bind (wpAny_field g1 rfl v1 ?_);rw[if_neg (by simp)];exact zlV I l' fun H' s' I' m' l2=>h H' s' I' m' l2
end
def zrq (W:WX):HR:=fun _ C fr dx _ σ H=>W σ (C,fr) dx (mask H)
def hAs (K:PySem.W.Frag) (C':Addr) (i:Nat) (ts:Addr->TS) (tr:HR):HR:=fun a C fr dx D σ H=>∃b,PySem.W.exmOne K (.ref C) (.ref C')=some b /\
 if b=true then ts a { nx:=fun σ' H'=>D.nx (σ'.set i none) H',rt:=D.rt,bk:=fun σ' H'=>D.bk (σ'.set i none) H',ct:=fun σ' H'=>D.ct (σ'.set i none) H' } (σ.set i (some (.ref a))) H else tr a C fr dx D σ H
section
variable {X:Cx}{W:WX}
theorem zma (tk:Takes X W):PH X [] (zrq W):=by
 intro pins s σ H D a C fr dx I l h;refine wpAny_handleBy_nil (zf6 I l fun H' s' I' m' l'=>tk.th pins σ H' s' a C fr dx I' l'.live ?_);rw[m'];exact h
theorem znT {x n:Str}{np pos:Pos}{b0:Stmt}{body:List Stmt}{rest:List ExceptHandler}{C':Addr}{i:Nat}{ts:Addr->TS}{tr:HR}(tk:Takes X W) (hst:X.stack=X.env::X.outer) (hf:X.env.frame=some X.env.locals) (hN:X.N.Nodup) (hi:X.N[i]?=some n) (hk:X.env.scope.names.lookup n=some .local)
  (hg:Gl X x) (hm:X.mg x=some (.ref C'))
  (suite:∀(a:Addr) (pn:List (Addr×Obj)) (xe:Value->Shared->Prop),Takes (X.sub (X.A.mark (some (.ref a))) false pn xe) (fun σ=>W (σ.set i none))->PSs (X.sub (X.A.mark (some (.ref a))) false pn xe) (b0::body) (ts a))
  (hr:PH X rest tr) (hd:(x == ("__debug__" : Str))=false:=by decide):PH X (.ExceptHandler (some (.Name x np)) (some n) (b0::body) pos::rest) (hAs X.K C' i ts tr):=by
 intro pins s σ H D a C fr dx I l h;obtain⟨b,hb,h⟩:=h;have frm:(X.A.mark (some (.ref a))).frames=X.A.frames:=rfl;have noH:false=true->(X.A.mark (some (.ref a))).handled=none:=fun z=>nomatch z;refine wpAny_handleBy_cons (codeAny_handlers_test ?_) (by intro q;cases q);have I0:Inv (X.sub (X.A.mark (some (.ref a))) false (X.pn++pins) (fun _ _=>False)) [] σ H s:=I.into frm noH;refine zbI (X:=X.sub (X.A.mark (some (.ref a))) false (X.pn++pins) (fun _ _=>False)) I0 hg hm ?_ hd;obtain⟨T,hT,e1,e2⟩:=id l;obtain⟨vs,sl,g1,sz,v1,v2⟩:=I.xo e1;have ty:PySem.W.Looks (model X.prog X.w) s.heap (typeOf (.ref a)) (.ref C):=(PySem.W.Looks.ld g1).andThen .now;refine(PySem.W.exm_one I.kIn ty hb).here ?_;cases b with
 |false =>
  simp only[Bool.false_eq_true,if_false] at h ⊢;exact hr pins s σ H D a C fr dx I l h
 |true =>
  simp only[if_true] at h ⊢;refine codeAny_handlers_suite_as ?_;generalize hNE:notedBy (model X.prog X.w) (X.A.mark (some (.ref a))) X.env (fun x s'=>cameBackBy (model X.prog X.w) X.A X.env X.xe x s')=NE;refine znZ I l fun s1 I1=>?_;have hil:i<σ.length:=by rw[I.len];exact(List.getElem?_eq_some_iff.mp hi).1
  let xe2:Value->Shared->Prop:=fun x s3=>wpAny (model X.prog X.w) (X.A.mark (some (.ref a))) (noteFrame x X.env) (fun _ s3' =>
      wpAny (model X.prog X.w) (X.A.mark (some (.ref a))) (do bindName X.env n .none;unbindBehindTheSuite X.env n pos)
       (fun _ s4=>wpAny (model X.prog X.w) (X.A.mark (some (.ref a))) (PySem.passOn "try.except-as" x X.env:Sem Flow) (fun _ _=>False) NE s4)
       (fun y s4=>wpAny (model X.prog X.w) (X.A.mark (some (.ref a))) (setFlight x none) (fun _ s5=>NE y s5) NE s4) s3') NE s3
  have I2:Inv (X.sub (X.A.mark (some (.ref a))) false (X.pn++pins) xe2) [] σ H s1:=I1.into frm noH;have tk2:Takes (X.sub (X.A.mark (some (.ref a))) false (X.pn++pins) xe2) (fun σ=>W (σ.set i none)):=by
   refine⟨fun p2 σ2 H2 s2 a2 C2 fr2 dx2 J2 k2 w2=>?_,PassesOwn.looking⟩;refine zg5 (X:=X.sub (X.A.mark (some (.ref a))) false (X.pn++pins) xe2) (L:=X.env.locals) J2 J2.ok.frames hst hf hf k2 fun H3 s3 J3 m3 k3=>?_;refine zfs (X:=X.sub (X.A.mark (some (.ref a))) false (X.pn++pins) xe2) J3 hN hi hk fun s4 J4=>?_;refine zf6 J4 k3 fun H5 s5 J5 m5 k5=>?_;rw[<-hNE];unfold notedBy;refine zg5 (X:=X.sub (X.A.mark (some (.ref a))) false (X.pn++pins) xe2) (L:=X.env.locals) J5 J5.ok.frames hst hf hf k5.live fun H6 s6 J6 m6 k6=>?_;refine zpg J6 k6 fun H7 s7 J7 m7 k7=>?_;refine tk.th pins _ H7 s7 a2 C2 fr2 dx2 (J7.back I.ok) k7.live ?_;rw[m7,m6,m5,m3];exact w2
  refine zdP (X:=X.sub (X.A.mark (some (.ref a))) false (X.pn++pins) xe2) (v:=V.ref a) I2 hN hi (.inl hk) rfl (fun s3 I3=>?_) (.inr hk);refine wpAny_mono (suite a (X.pn++pins) xe2 tk2 [] s3 _ H _ I3 h) (fun f s4 h4=>?_) fun x s4 h4=>h4;have h5:SP X pins { nx:=fun σ' H'=>D.nx (σ'.set i none) H',rt:=D.rt,bk:=fun σ' H'=>D.bk (σ'.set i none) H',ct:=fun σ' H'=>D.ct (σ'.set i none) H' } f s4:=SP.back I.ok h4;show wpAny _ X.A (do bindName X.env n .none;unbindBehindTheSuite X.env n pos) _ X.xe s4;cases f with
  |next =>
   obtain⟨σ5,H5,I5,q5⟩:=h5;exact zfs I5 hN hi hk fun s6 I6=>⟨_,H5,I6,q5⟩
  |brk =>
   obtain⟨σ5,H5,I5,q5⟩:=h5;exact zfs I5 hN hi hk fun s6 I6=>⟨_,H5,I6,q5⟩
  |cont =>
   obtain⟨σ5,H5,I5,q5⟩:=h5;exact zfs I5 hN hi hk fun s6 I6=>⟨_,H5,I6,q5⟩
  |ret u =>
   obtain⟨v5,σ5,H5,I5,r5,q5⟩:=h5;exact zfs I5 hN hi hk fun s6 I6=>⟨v5,_,H5,I6,r5,q5⟩
def zrJ (Wt:WX) (tb:TS) (th:HR):TS:=fun D σ H=>tb D σ H/\∀(a C:Addr) (fr:Bool) (dx:Option Addr) (σ':St) (H':Hp),LiveT H' a C fr dx .none->Wt σ' (C,fr) dx (mask H')->th a C fr dx D σ' H'
theorem zlj {body:List Stmt}{h0:ExceptHandler}{hs:List ExceptHandler}{pos:Pos}{Wt:WX}{tb:TS}{th:HR}(hst:X.stack=X.env::X.outer) (hf:X.env.frame=some X.env.locals)
  (hb:∀(pn:List (Addr×Obj)) (xe:Value->Shared->Prop),Takes (X.sub X.A X.calm pn xe) Wt->PSs (X.sub X.A X.calm pn xe) body tb) (hh:PH X (h0::hs) th):PS X (.Try body (h0::hs) [] [] pos) (zrJ Wt tb th):=by
 intro pins s σ H D I h;obtain⟨h1,h2⟩:=h;refine wpAny_Try_except ?_
 let xe2:Value->Shared->Prop:=fun e s1=>wpAny (model X.prog X.w) X.A (noteFrame e X.env) (fun _ s2=>wpAny (model X.prog X.w) X.A (setFlight e none) (fun _ s3=>wpAny (model X.prog X.w) X.A (handleBy e X.env (h0::hs)) (SP X pins D) X.xe s3) X.xe s2) X.xe s1
 have I2:Inv (X.sub X.A X.calm (X.pn++pins) xe2) [] σ H s:=I.into rfl I.ok.hd;have tk2:Takes (X.sub X.A X.calm (X.pn++pins) xe2) Wt:=by
  refine⟨fun p2 σ2 H2 s2 a2 C2 fr2 dx2 J2 k2 w2=>?_,PassesOwn.looking⟩;refine zkR (X:=X.sub X.A X.calm (X.pn++pins) xe2) (L:=X.env.locals) J2 J2.ok.frames hst hf hf k2 fun H3 s3 J3 m3 k3=>?_;exact hh pins s3 σ2 H3 D a2 C2 fr2 dx2 (J3.back I.ok) k3 (h2 a2 C2 fr2 dx2 σ2 H3 k3 (by rw[m3];exact w2))
 refine wpAny_mono (hb (X.pn++pins) xe2 tk2 [] s σ H D I2 h1) (fun f s4 h4=>?_) fun x s4 h4=>h4;have h5:SP X pins D f s4:=SP.back I.ok h4;cases f with
 |next =>
  obtain⟨σ5,H5,I5,q5⟩:=h5;exact wpAny_execs_nil ⟨σ5,H5,I5,q5⟩
 |brk=>exact h5
 |cont=>exact h5
 |ret u=>exact h5
end
def zd8 (K:PySem.W.Frag) (C:Addr):Bool:=match K.lookup C with
 |some ⟨_,_,.cls cd,sl⟩=>!cd.hasDel&&(sl.toList[4]?).join == some (.builtin "Exception.__new__")&&!cd.mro.isEmpty&&(cd.mro.contains (.ref C)&&cd.mro.contains (.type "Exception"))&&!cd.mro.contains (.type "AttributeError")&&!cd.mro.contains (.type "NameError") &&
   (PySem.W.specialIn K (.ref C) "__call__" == some (some (.builtin "type.__call__"))&&PySem.W.instIn K (.ref C) (.type "type") == some true)
 |_=>false
structure zlu (M:Model) (h:Heap) (C:Addr):Prop where
 obj:∃oc od cd sl,h.get? C=some ⟨oc,od,.cls cd,sl⟩/\cd.hasDel=false/\cd.mro.isEmpty=false
 made:PySem.W.Looks M h (Bind.madeBy (.ref C)) (some "Exception.__new__")
 base:PySem.W.Looks M h (Bind.staticBase (.ref C)) (.ref C)
 self:PySem.W.Looks M h (isSubtype (.ref C) (.ref C)) true
 exc:PySem.W.Looks M h (isSubtype (.ref C) (.type "Exception")) true
 noA:PySem.W.Looks M h (isSubtype (.ref C) (.type "AttributeError")) false
 noN:PySem.W.Looks M h (isSubtype (.ref C) (.type "NameError")) false
 call:PySem.W.Looks M h (specialOf (.ref C) "__call__") (some (.builtin "type.__call__"))
 typ:PySem.W.Looks M h (isInstance (.ref C) (.type "type")) true
theorem zm6 {K:PySem.W.Frag}{M:Model}{h:Heap}(KX:K.In h) {C:Addr}(q:zd8 K C=true):zlu M h C:=by
 unfold zd8 at q;split at q
 ·rename_i oc od cd sl lk;simp only[Bool.and_eq_true,Bool.not_eq_true',beq_iff_eq] at q;obtain⟨⟨⟨⟨⟨⟨q1,q2⟩,q3⟩,q4,q5⟩,q6⟩,q7⟩,q8,q9⟩:=q;have hcd:PySem.W.clsIn K C=some cd:=by unfold PySem.W.clsIn;rw[lk]
  have mro:PySem.W.Looks M h (mroOf (.ref C)) cd.mro:=(PySem.W.looks_clsIn KX hcd).andThen .now;obtain⟨c1,l1,hl⟩:∃c1 l1,cd.mro=c1::l1:=by
   cases z:cd.mro with
   |nil=>rw[z] at q3;cases q3
   |cons c1 l1=>exact⟨c1,l1,rfl⟩
  have made:PySem.W.Looks M h (Bind.madeBy (.ref C)) (some "Exception.__new__"):=by
   intro A0 Q0 E0 s0 k0 w0;unfold Bind.madeBy;refine wpAny_bind (mro A0 _ E0 s0 k0 ?_);rw[hl,List.forIn_cons];refine wpAny_bind (wpAny_bind (wpAny_bind (wpAny_bind (wpAny_loadPart (k0 _ _ (KX _ _ lk)) (wpAny_pure ?_)))));dsimp only;rw[<-Array.getElem?_toList,q2];exact wpAny_pure (wpAny_pure (wpAny_pure w0))
  have sub:∀{b:Value} {r:Bool},cd.mro.contains b=r->PySem.W.Looks M h (isSubtype (.ref C) b) r:=fun{b r} z=>PySem.W.looks_mroIn KX (by
   unfold PySem.W.mroIn;rw[hcd,Option.bind_some,if_neg (by rw[q3];decide),z])
  refine⟨⟨oc,od,cd,sl,KX _ _ lk,q1,q3⟩,made,?_,sub q4,sub q5,sub q6,sub q7,PySem.W.looks_specialIn KX q8,PySem.W.looks_instIn KX q9⟩;intro A0 Q0 E0 s0 k0 w0;unfold Bind.staticBase;refine wpAny_bind (mro A0 _ E0 s0 k0 ?_);rw[hl,List.forIn_cons];exact wpAny_bind (wpAny_bind (wpAny_bind (made A0 _ E0 s0 k0 (wpAny_pure (wpAny_pure (wpAny_pure w0))))))
 ·cases q
abbrev zaw (us:List Value):Obj:={ cls:=.type "tuple",data:=.seq us.toArray }
abbrev za0 (C t:Addr):Obj:={ cls:=.ref C,data:=.fields #[.ref t,.none,.none,.none,.bool false,.none] }
section
variable {prog:Program}{w:World}{A:Around}{C:Addr}{R:Result->Shared->Prop}{h:Heap}{g:Array GenState}{d:Drawn}{t:Nat}{os:OsState}
theorem zo6 {us:List Value}(Y:zlu (model prog w) h C) (hus:us.length<=sizeLine)
  (hq:R (.ok (.ret (.ref (h.objs.size+1)))) ⟨(h.push (zaw us)).push (za0 C h.objs.size),g,d,t,os⟩) :
  codeAny (model prog w) A (.call (.builtin "Exception.__new__") ⟨.ref C::us,[]⟩) R ⟨h,g,d,t,os⟩:=by
 obtain⟨⟨oc,od,cd,sl,hC,e2,e4⟩,made,base,self,exc,noA,noN,call,typ⟩:=Y;have F:=PySem.F.excBase_Exception;have hstar:=F.noStar;refine codeAny_call_builtin_code (Code.quiet_builtin _ F.quiet) ?_;simp only[checkBuiltinCall,F.newKind,F.newSplit,F.newRow];have here:PySem.W.Looks (model prog w) h (Bind.madeHere "BaseException.__new__" (.ref C)) ():=base.andThen (made.andThen (PySem.W.Looks.of_pure (by simp only[Option.map_some,F.canon,bne_self_eq_false,Bool.false_eq_true,if_false])));have here2:PySem.W.Looks (model prog w) h (Bind.madeHere "Exception.__new__" (.ref C)) ():=base.andThen (made.andThen (PySem.W.Looks.of_pure (by simp only[Option.map_some,bne_self_eq_false,Bool.false_eq_true,if_false])))
 repeat (first|simp only[bne_self_eq_false,Bool.false_eq_true,if_false]|lk)
 have hends:=F.ends;refine codeAny_builtinAt F.entry ?_;unfold Builtin.«BaseException.__new__»;refine PySem.wpAt_bind ?_;show PySem.wpAt _ _ _ (stack >>= _) _ _ _;refine PySem.wpAt_bind (PySem.wpAt_stack fun p below=>PySem.wpAt_of_wpAny ?_)
 wp_walk
 refine PySem.wpAt_of_wpAny ?_;rw[F.owner];have isT:PySem.W.Looks (model prog w) h (isType (.ref C)) true:=by
  unfold isType loadHead;exact(PySem.W.Looks.ld hC).andThen .now
 repeat (first|simp only[Bool.not_true,Bool.false_eq_true,if_false]|lk)
 rw[if_neg (by rw[List.size_toArray];omega)];unfold newObjAsIs;refine wpAny_bind (wpAny_alloc (wpAny_pure ?_));have hC1:=Heap.get?_push_of_some (zaw us) hC;have hC2:=Heap.get?_push_of_some (za0 C h.objs.size) hC1;refine wpAny_bind ?_;show wpAny _ _ (newObjAsIs (.ref C) _ _) _ _ _;unfold newObjAsIs classHasDel;refine wpAny_bind (wpAny_alloc (wpAny_bind (wpAny_bind (wpAny_load hC2 (wpAny_pure ?_)))));rw[e2];refine wpAny_pure (wpAny_pure ?_);show R _ _;rw[Heap.size_push];exact hq
end
section
variable {prog:Program}{w:World}{A:Around}{C f:Addr}{R:Result->Shared->Prop}{h:Heap}{g:Array GenState}{d:Drawn}{t:Nat}{os:OsState}
theorem zoq {us:List Value}(Y:zlu (model prog w) h C) (hi:PySem.W.Looks (model prog w) h (typeLookup (.ref C) "__init__") (some (.ref f))) (hb:∀self,PySem.W.Looks (model prog w) h (bindSpecial (.ref f) self) (.ref f,[self])) (hus:us.length<=sizeLine)
  (hq:codeAny (model prog w) (A.under (.builtin "type.__call__" ⟨.ref C::us,[]⟩)) (.call (.ref f) ⟨.ref (h.objs.size+1)::us,[]⟩) (PySem.W.InitBack (h.objs.size+1) R) ⟨(h.push (zaw us)).push (za0 C h.objs.size),g,d,t,os⟩) :
  codeAny (model prog w) A (.call (.ref C) ⟨us,[]⟩) R ⟨h,g,d,t,os⟩:=by
 have Y':=Y;obtain⟨⟨oc,od,cd,sl,hC,e2,e4⟩,made,base,self,exc,noA,noN,call,typ⟩:=Y;refine codeAny_of_tree ?_;show wpAny _ _ (callAny (.ref C) _) _ _ _;refine PySem.W.nd_load hC ?_;show wpAny _ _ (callAny.viaDunder (.ref C) _) _ _ _;unfold callAny.viaDunder;refine wpAny_bind (call.at ?_);dsimp only;rw[tc_bind];refine wpAny_bind (wpAny_pure (wpAny_bind (wpAny_pure ?_)));refine wpAny_pure (a:=Fin.again (.call (.builtin "type.__call__") ⟨.ref C::us,[]⟩)) (And.intro rfl ?_);refine codeAny_call_builtin_at (Code.quiet_builtin _ (by decide +kernel)) entry_typeCall (PySem.W.check_slot tc_kind tc_split typ (PySem.W.tc_args _ _ _) ?_);unfold Builtin.«type.__call__»;have hm:PySem.W.Looks (model prog w) h (mroOf (.ref C)) cd.mro:=((PySem.W.Looks.ld (part:=none) hC).andThen .now).andThen .now
 repeat (first|simp only[e4,Bool.false_eq_true,if_false]|with_reducible refine wpAny_call ?_|lk)
 refine zo6 Y' hus ?_;have kp:∀b o,h.get? b=some o->((h.push (zaw us)).push (za0 C h.objs.size)).get? b=some o:=fun b o e=>Heap.get?_push_of_some _ (Heap.get?_push_of_some _ e);have hx:((h.push (zaw us)).push (za0 C h.objs.size)).get? (h.objs.size+1)=some (za0 C h.objs.size):=by heap_get
 have t1:PySem.W.Looks (model prog w) ((h.push (zaw us)).push (za0 C h.objs.size)) (typeOf (.ref (h.objs.size+1))) (.ref C):=(PySem.W.Looks.ld hx).andThen .now;have s1:=self.keeps kp;have i1:=hi.keeps kp;have b1:=(hb (.ref (h.objs.size+1))).keeps kp;unfold isInstance callSpecial? specialOf
 repeat (first|with_reducible refine wpAny_call ?_|lk)
 refine codeAny_mono hq fun r s' z=>?_;rcases r with e|(v|_|_|_) <;> first|exact z|exact z.elim|skip
 obtain⟨rfl,z⟩:=z;exact wpAny_pure (wpAny_pure z)
end
structure MkX (K:PySem.W.Frag) (C f:Addr):Prop where
 makes:zd8 K C=true
 init:PySem.W.findIn K (.ref C) "__init__" = some (some (.ref f))
 fn:PySem.W.isFn K (.ref f)=true
 kp:PySem.W.keepIn K (.ref C)=true
def zj6 (C:Addr) (sp:Sp) (W:WX) (t:TA):TE:=fun σ H Q=>t σ H fun vs H1=>vs.length<=1000/\∀x,H1 x=none->sp (.ref x::vs) (upd H1 x (xO C true none .none x)) (fun v H2=>v=.non/\Q (.ref x) H2) (W σ)
section
variable {X:Cx}{W:WX}{k:Nat}{f C:Addr}{fd:FuncData}{ps:List Str}{sp:Sp}{x:Str}{p pos:Pos}{e:Expr}{es:List Expr}{t:TA}{cm:Bool}
theorem ziN {pins:List (Addr×Obj)}{σ:St}{H:Hp}{s:Shared}{Q:VK}{us:List Value}{vs:List V}(M:MkX X.K C f) (F:FnOk X.prog X.w X.K X.mg X.base (CXo X.prog X.w) cm k f fd ps sp) (hr:Room cm (k+1) X.A) (hb:Binds X.K fd ps [])
  (tk:Takes X W) (I:Inv X pins σ H s) (r:Vals vs us) (hl:vs.length<=1000)
  (h:∀x,H x=none->sp (.ref x::vs) (upd H x (xO C true none .none x)) (fun v H2=>v=.non/\Q (.ref x) H2) (W σ)) :
  wpAny (model X.prog X.w) X.A (call (.ref C) us) (EP X pins σ Q) X.xe s:=by
 obtain⟨hp,g,d,tk0,os⟩:=s;have hq:=h (hp.objs.size+1) (I.hok.fresh (Nat.le_succ _));have I1:Inv X pins σ H ⟨hp.push (zaw us),g,d,tk0,os⟩:=I.kept (h':=hp.push (zaw us)) (t':=tk0) (fun b u e=>Heap.get?_push_of_some _ e);have hx:((hp.push (zaw us)).push (za0 C hp.objs.size)).get? (hp.objs.size+1)=some (za0 C hp.objs.size):=by heap_get
 have I2:Inv X pins σ (upd H (hp.objs.size+1) (xO C true none .none (hp.objs.size+1))) ⟨(hp.push (zaw us)).push (za0 C hp.objs.size),g,d,tk0,os⟩ :=
  I1.laid (h':=(hp.push (zaw us)).push (za0 C hp.objs.size)) (t':=tk0) (fun b u e=>Heap.get?_push_of_some _ e) (by show(hp.push (zaw us)).objs.size<=_;rw[Heap.size_push];exact Nat.le_refl _) (zmw ⟨_,_,hx,rfl,rfl,fun _=>rfl⟩)
 have r2:Vals (V.ref (hp.objs.size+1)::vs) (Value.ref (hp.objs.size+1)::us):=.cons rfl r;have hl2:(Value.ref (hp.objs.size+1)::us++[]).length=ps.length:=by
  have e:=r2.length;rw[F.len _ _ _ _ hq] at e;simpa using e.symm
 have hbd:=hb ⟨(hp.push (zaw us)).push (za0 C hp.objs.size),g,d,tk0,os⟩ (Value.ref (hp.objs.size+1)::us) I2.kIn hl2;rw[List.append_nil] at hbd;have hfn:PySem.W.typeIn X.K (.ref f)=some (.type "function"):=beq_iff_eq.mp M.fn;refine wpAny_call (zoq (f:=f) (zm6 I.kIn M.makes) (PySem.W.looks_findIn I.kIn M.init) (fun self=>PySem.W.bind_fn I.kIn self hfn) (by rw[<-r.length];exact Nat.le_trans hl (by decide))
  (codeAny_mono (F.run _ X.stack _ _ ⟨Value.ref (hp.objs.size+1)::us,[]⟩ (Value.ref (hp.objs.size+1)::us) _ _ (W σ) (hr.make C us []) (I2.env0.make C us []) hbd r2 hq) fun r s' hq'=>?_))
 cases r with
 |error e =>
  have z:=tk.passes pins σ _ _ e s' I2 hq';exact z
 |ok fl =>
  cases fl with
  |ret u =>
   obtain⟨v,H',I3,rv,ev,q3⟩:=I2.after hq';subst ev;exact⟨rv,⟨V.ref (hp.objs.size+1),H',I3,rfl,q3⟩⟩
  |next=>exact False.elim hq'
  |brk=>exact False.elim hq'
  |cont=>exact False.elim hq'
theorem zP (M:MkX X.K C f) (F:FnOk X.prog X.w X.K X.mg X.base (CXo X.prog X.w) cm k f fd ps sp) (hr:Room cm (k+1) X.A) (hg:Gl X x) (hm:X.mg x=some (.ref C)) (hb:Binds X.K fd ps []) (tk:Takes X W)
  (ha:PA X (e::es) t) (hdb:(x == ("__debug__" : Str))=false:=by decide) (he:starEach (e::es) X.env=(false,eval e X.env)::starEach es X.env:=by rfl) (hpl:(backTo pos (starEach es X.env)).any (·.1)=false:=by rfl) :
  PE X (.Call (.Name x p) (e::es) [] pos) (zj6 C sp W t):=by
 intro pins s σ H Q I h;refine wpAny_Call_Name_kw (zbI I hg hm ?_ hdb);refine PySem.W.callWith_K (h₀:=X.base) I.ok.mod.kin M.kp (thn (ha pos pins s σ H _ I h) fun us s1 ⟨vs,H1,I1,r,hl,q⟩=>⟨I1.kIn,?_⟩) he hpl;exact ziN M F hr hb tk I1 r hl q
theorem znu (M:MkX X.K C f) (F:FnOk X.prog X.w X.K X.mg X.base (CXo X.prog X.w) cm k f fd ps sp) (hr:Room cm (k+1) X.A) (hg:Gl X x) (hm:X.mg x=some (.ref C)) (hb:Binds X.K fd ps []) (tk:Takes X W)
  (hdb:(x == ("__debug__" : Str))=false:=by decide):PE X (.Call (.Name x p) [] [] pos) (zj6 C sp W zlZ):=by
 intro pins s σ H Q I h;refine wpAny_Call_Name_kw (zbI I hg hm ?_ hdb);exact PySem.W.callWith_K0 I.kIn M.kp (ziN (us:=[]) M F hr hb tk I .nil h.1 h.2)
end
end L2
namespace L2
open PySem PySem.Spec PyProof.Rows
open Builtin.ObjectAttr
def zd7:List Value->Bool
 |[.type a,.type b,.type c]=>a == "Exception" && b == "BaseException" && c == "object"
 |.ref _::r=>zd7 r
 |_=>false
theorem zhd (self:Value):∀{l:List Value},zd7 l=true->refuseLoop self "__setattr__" l=pure ()
 |[],e=>by cases e
 |.ref c::r,e=>by
  rw[refuseLoop_ref];exact zhd self (l:=r) (by unfold zd7 at e;exact e)
 |[.type a,.type b,.type c],e=>by
  have e':(a == "Exception" && b == "BaseException" && c == "object")=true:=e;simp only[Bool.and_eq_true,beq_iff_eq] at e';obtain⟨⟨rfl,rfl⟩,rfl⟩:=e';exact PySem.F.store_Exception.passes self
theorem zbm:∀{l:List Value},zd7 l=true->l.contains (.type "object")=true/\l.contains (.type "BaseException")=true
 |[],e=>by cases e
 |.ref c::r,e=>by
  have z:=zbm (l:=r) (by unfold zd7 at e;exact e);rw[List.contains_cons,List.contains_cons,z.1,z.2];exact⟨Bool.or_true _,Bool.or_true _⟩
 |[.type a,.type b,.type c],e=>by
  have e':(a == "Exception" && b == "BaseException" && c == "object")=true:=e;simp only[Bool.and_eq_true,beq_iff_eq] at e';obtain⟨⟨rfl,rfl⟩,rfl⟩:=e';exact⟨by decide,by decide⟩
def znV (K:PySem.W.Frag) (C:Addr):Bool:=(PySem.W.clsIn K C).any fun cd=>zd7 cd.mro
structure zjX (K:PySem.W.Frag) (C:Addr):Prop where
 po:znV K C=true
 hd:PySem.W.hasDictIn K C=true
 sa:PySem.W.findIn K (.ref C) "__setattr__" = some (some (.builtin "object.__setattr__"))
 ga:PySem.W.findIn K (.ref C) "__getattribute__" = some (some (.builtin "BaseException.__getattribute__"))
 gh:PySem.W.findIn K (.ref C) "__getattr__" = some none
section
variable {prog:Program}{w:World}{A:Around}{K:PySem.W.Frag}{s:Shared}{x C:Addr}{R:Result->Shared->Prop}
theorem zjb {ox:Obj}{od:Option Obj}{name:Str}{tk:Tok}{v:Value}(KX:K.In s.heap) (I:PySem.W.InstAt s.heap x ox C od) (hp:znV K C=true) (ht:NoAttr K C name)
  (h:∀b,wpAny (model prog w) A.in1 (storeInOwnDict (.ref x) (.ref C) (.str name tk) name v b)
    (fun fin s'=>match fin with|.done f=>R (.ok f) s'|.again c'=>c'.quiet=true/\codeAny (model prog w) A c' R s') (fun e s'=>R (.error e) s') s) :
  codeAny (model prog w) A (.call (.builtin "object.__setattr__") ⟨[.ref x,.str name tk,v],[]⟩) R s:=by
 have SF:=PySem.F.store_object;obtain⟨cd,hc,ho⟩:=PySem.W.any_some hp;have ne:cd.mro.isEmpty=false:=by
  cases q:cd.mro with
  |nil=>rw[q] at ho;cases ho
  |cons _ _=>rfl
 have sub:PySem.W.Looks (model prog w) s.heap (isInstance (.ref x) (.type "object")) true:=I.type.andThen (PySem.W.looks_mroIn KX (by
  unfold PySem.W.mroIn;rw[hc,Option.bind_some,if_neg (by rw[ne];decide),(zbm ho).1]))
 refine codeAny_call_builtin SF.slot.plain SF.entry (@PySem.W.check_slot (model prog w) _ _ s "object.__setattr__" "object" "__setattr__" (.ref x) [.str name tk,v] [] _ SF.kind SF.split sub (SF.args (.ref x) (.str name tk) v) ?_);have hm:PySem.W.Looks (model prog w) s.heap (mroOf (.ref C)) cd.mro:=(PySem.W.looks_clsIn KX hc).andThen .now;rw[PySem.W.osa_eq,refuse_eq];refine wpAny_bind (wpAny_bind (I.type.here (wpAny_bind (hm.here ?_))));rw[zhd _ ho];exact wpAny_pure (wpAny_bind (I.type.here (wpAny_bind ((PySem.W.looks_findIn KX ht).here (wpAny_bind (wpAny_pure (h _)))))))
end
section
variable {X:Cx}{pins:List (Addr×Obj)}{σ:List (Option V)}{H:Hp}{s:Shared}{a C d:Addr}{fr:Bool}{tb:Value}{A:Around}{E:Value->Shared->Prop}{f:Str}{y:V}{u:Value}{fs:List (Str×V)}
theorem znK {Q:Unit->Shared->Prop}(I:Inv X pins σ H s) (e:H a=some (xO C fr none tb a)) (c:zjX X.K C) (n:NoAttr X.K C f) (ry:RelV y u)
  (h:∀d H' s',H d=none->d≠a->Inv X pins σ H' s'->H' a=some (xO C fr (some d) tb a)->H' d=some (.xd [(f,y)])->(∀b,b≠a->b≠d->H' b=H b)->Q () s'):wpAny (model X.prog X.w) A (setAttr (.ref a) f u) Q E s:=by
 obtain⟨vs,sl,g1,sz,v1,v2⟩:=I.xo e;have J:PySem.W.InstAt s.heap a ⟨.ref C,none,.fields vs,sl⟩ C none:=⟨g1,rfl,rfl,True.intro⟩
 have I0:=I.tok (s.toks+1);refine PySem.W.set_plain I.kIn J c.sa (zjb (s:={ s with toks:=s.toks+1 }) I.kIn J c.po n fun b=>?_);obtain⟨cd,hc,hd'⟩:=PySem.W.any_some c.hd;refine wpAny_bind (wpAny_pure (wpAny_bind (wpAny_bind (wpAny_loadPart g1 (wpAny_bind (PySem.W.Looks.here (s:={ s with toks:=s.toks+1 }) (PySem.W.looks_clsIn I.kIn hc) ?_))))));rw[hd'];show wpAny _ A.in1 (alloc { cls:=.type "dict",data:=.dict #[] } >>= fun d=>(update a fun o=>{ cls:=o.cls,dict:=some d,data:=o.data,slots:=o.slots }) >>= fun _=>dictMade (.ref C) a d) _ _ _;refine wpAny_bind (wpAny_alloc ?_);generalize hd0:s.heap.objs.size=d;have dn:H d=none:=I.hok.fresh (Nat.le_of_eq hd0);have da:a≠d:=zg e dn;have gD:(s.heap.push { cls:=.type "dict",data:=.dict #[] }).get? d=some { cls:=.type "dict",data:=.dict #[] }:=by
  rw[<-hd0];exact Heap.get?_push_size s.heap rfl
 have nD:(s.heap.push { cls:=.type "dict",data:=.dict #[] }).Ns d (fun _=>none):=⟨_,#[],_,gD,rfl,fun z hz=>absurd hz (by simp),fun _=>rfl⟩
 have I1:=I0.laid (a:=d) (o:=.xd []) (h':=s.heap.push { cls:=.type "dict",data:=.dict #[] }) (t':=s.toks+1) (fun b q z=>Heap.get?_push_of_some _ z) (Nat.le_of_eq hd0)
  ⟨fun _=>none,Heap.Ns1.of_empty nD,fun _=>True.intro,Nat.zero_le _,fun z hz=>absurd rfl hz⟩
 have e1:upd H d (.xd []) a=some (xO C fr none tb a):=by
  rw[zd da];exact e
 have g2:(s.heap.push { cls:=.type "dict",data:=.dict #[] }).get? a=some ⟨.ref C,none,.fields vs,sl⟩:=Heap.get?_push_of_some _ g1;refine wpAny_bind (wpAny_update g2 ?_);have g3:((s.heap.push { cls:=.type "dict",data:=.dict #[] }).update a fun o=>{ cls:=o.cls,dict:=some d,data:=o.data,slots:=o.slots }).get? a=some ⟨.ref C,some d,.fields vs,sl⟩:=Heap.get?_update_self _ g2 rfl;have I2:=I1.write (x:=a) (e:=a) (o:=xO C fr (some d) tb a) (t':=s.toks+1) (h':=(s.heap.push { cls:=.type "dict",data:=.dict #[] }).update a fun o=>{ cls:=o.cls,dict:=some d,data:=o.data,slots:=o.slots })
  (by rw[e1];exact zmb) (.inl rfl) (fun b q hb z=>(Heap.get?_update_other _ _ (Ne.symm hb)).trans z) ⟨_,g3⟩ (zmw ⟨vs,sl,g3,sz,v1,v2⟩)
 have e2:upd (upd H d (.xd [])) a (xO C fr (some d) tb a) d=some (.xd []):=by
  rw[zd (Ne.symm da)];exact zc
 refine wpAny_pure (a:=some d) ?_;show wpAny _ _ (storeInDict d (.str f s.toks) f u) _ _ _;unfold storeInDict newKeyGuard;obtain⟨mA,n1,r1,l1,w1⟩:=(show ObjOk X.prog X.w _ _ d (.xd []) from I2.hok d _ e2)
 refine wpAny_bind (wpAny_pure (wpAny_bind (wpAny_nsSet1 n1 fun h3 n3 s3=>?_)));obtain⟨oD,esD,epD,hoD,hdD,hcD⟩:=n3.count (PySem.Within.cons f u w1);refine wpAny_bind (wpAny_lookBehind hoD (by rw[hdD];exact pastItsLine_dict (Nat.le_trans hcD (by show 1<=_;rw[sizeLine_eq];decide))) ?_);refine wpAny_pure (h d (upd (upd (upd H d (.xd [])) a (xO C fr (some d) tb a)) d (.xd [(f,y)])) _ dn (Ne.symm da) (I2.write (x:=d) (e:=d) (by rw[e2];exact True.intro) (.inl rfl) (fun b q hb z=>(s3.2 b hb).trans z) ⟨_,hoD⟩
  ⟨_,n3,fun g=>?_,by show 1<=1000;decide,fun g hg=>?_⟩) ?_ zc fun b hb hbd=>?_)
 ·show RelO (List.lookup g [(f,y)]) (if g=f then some u else mA g);by_cases q:g=f
  ·rw[if_pos q,q];simp only[List.lookup_cons,beq_self_eq_true];exact ry
  ·rw[if_neg q];have q':(g == f)=false:=by simpa using q
   simp only[List.lookup_cons,q',List.lookup_nil];exact r1 g
 ·show g∈[f];by_cases q:g=f
  ·rw[q];exact List.mem_singleton.mpr rfl
  ·have z:mA g≠none:=fun z=>hg (by show(if g=f then some u else mA g)=none;rw[if_neg q];exact z);exact absurd (w1 g z) (by simp)
 ·rw[zd da];exact zc
 ·rw[zd hbd,zd hb,zd hbd]
theorem zop {Q:Unit->Shared->Prop}(I:Inv X pins σ H s) (e:H a=some (xO C fr (some d) tb a)) (ed:H d=some (.xd fs)) (c:zjX X.K C) (n:NoAttr X.K C f) (hl:fs.length<1000) (ry:RelV y u)
  (h:∀s',Inv X pins σ (upd H d (.xd (zcf f y fs))) s'->Q () s'):wpAny (model X.prog X.w) A (setAttr (.ref a) f u) Q E s:=by
 obtain⟨vs,sl,g1,sz,v1,v2⟩:=I.xo e;have da:a≠d:=zbN e ed (by intro z;cases z);obtain⟨mA,n1,r1,l1,w1⟩:=(show ObjOk X.prog X.w _ _ d (.xd fs) from I.hok d _ ed)
 obtain⟨od,god,_⟩:=zfS n1;have J:PySem.W.InstAt s.heap a ⟨.ref C,some d,.fields vs,sl⟩ C (some od):=⟨g1,rfl,rfl,god⟩
 have I0:=I.tok (s.toks+1);refine PySem.W.set_plain I.kIn J c.sa (zjb (s:={ s with toks:=s.toks+1 }) I.kIn J c.po n fun b=>?_);obtain⟨cd,hc,hd'⟩:=PySem.W.any_some c.hd;refine wpAny_bind (wpAny_pure (wpAny_bind (wpAny_bind (wpAny_loadPart g1 (wpAny_bind (PySem.W.Looks.here (s:={ s with toks:=s.toks+1 }) (PySem.W.looks_clsIn I.kIn hc) ?_))))));rw[hd'];refine wpAny_pure (a:=some d) ?_;show wpAny _ _ (storeInDict d (.str f s.toks) f u) _ _ _;unfold storeInDict newKeyGuard;refine wpAny_bind (wpAny_pure (wpAny_bind (wpAny_nsSet1 n1 fun h3 n3 s3=>?_)));obtain⟨oD,esD,epD,hoD,hdD,hcD⟩:=n3.count (PySem.Within.cons f u w1);refine wpAny_bind (wpAny_lookBehind hoD (by rw[hdD];exact pastItsLine_dict (Nat.le_trans hcD (by rw[List.length_cons,List.length_map,sizeLine_eq];omega))) ?_);refine wpAny_pure (h _ (I0.write (x:=d) (e:=d) (by rw[ed];exact True.intro) (.inl rfl) (fun b q hb z=>(s3.2 b hb).trans z) ⟨_,hoD⟩ ⟨_,n3,fun g=>?_,?_,fun g hg=>?_⟩))
 ·show RelO ((zcf f y fs).lookup g) (if g=f then some u else mA g);rw[zd5];by_cases q:g=f
  ·rw[if_pos q,if_pos q];exact ry
  ·rw[if_neg q,if_neg q];exact r1 g
 ·have:=zdK f y fs;omega
 ·by_cases q:g=f
  ·rw[q];exact(zcg f y fs).1
  ·refine(zcg f y fs).2 g (w1 g fun z=>hg ?_);show(if g=f then some u else mA g)=none;rw[if_neg q];exact z
end
end L2
section
set_option maxHeartbeats 400000
namespace L2
open PySem PySem.Spec PyProof.Rows
theorem zoZ:builtinKind "BaseException.__getattribute__" = some .slot:=by decide +kernel
theorem zoG:splitId "BaseException.__getattribute__" = some ("BaseException", "__getattribute__"):=by decide +kernel
section
variable {X:Cx}{pins:List (Addr×Obj)}{σ:List (Option V)}{H:Hp}{s:Shared}{a C d:Addr}{fr:Bool}{tb:Value}{A:Around}{E:Value->Shared->Prop}{f:Str}{v:V}{fs:List (Str×V)}
theorem zo5 {b:Bool}{Q:Value->Shared->Prop}(I:Inv X pins σ H s) (e:H a=some (xO C fr (some d) tb a)) (ed:H d=some (.xd fs)) (c:zjX X.K C) (n:NoAttr X.K C f) (l:fs.lookup f=some v)
  (h:∀u s',Inv X pins σ H s'->RelV v u->Q u s'):wpAny (model X.prog X.w) A (getAttr (.ref a) f b) Q E s:=by
 obtain⟨vs,sl,g1,sz,v1,v2⟩:=I.xo e;obtain⟨mA,n1,r1,l1,w1⟩:=(show ObjOk X.prog X.w _ _ d (.xd fs) from I.hok d _ ed)
 obtain⟨od,god,lk0⟩:=zfS n1;have J:PySem.W.InstAt s.heap a ⟨.ref C,some d,.fields vs,sl⟩ C (some od):=⟨g1,rfl,rfl,god⟩
 obtain⟨u,hu,ru⟩:∃u,mA f=some u/\RelV v u:=by
  have z:=r1 f;rw[l] at z;cases q:mA f with
  |none=>rw[q] at z;exact z.elim
  |some u=>rw[q] at z;exact⟨u,rfl,z⟩
 have FX:=PySem.F.attr_Exception;have L0:=J.type (M:=model X.prog X.w);have L1:=PySem.W.looks_findIn (M:=model X.prog X.w) I.kIn c.ga;have L2':=PySem.W.looks_findIn (M:=model X.prog X.w) I.kIn c.gh;have LF:=PySem.W.looks_find (M:=model X.prog X.w) I.kIn J (PySem.W.findObj_own (name:=f) c.hd n rfl (by rw[lk0,hu]));obtain⟨cd,hc,ho⟩:=PySem.W.any_some c.po;have ne:cd.mro.isEmpty=false:=by
  cases q:cd.mro with
  |nil=>rw[q] at ho;cases ho
  |cons _ _=>rfl
 have sub:PySem.W.Looks (model X.prog X.w) s.heap (isInstance (.ref a) (.type "BaseException")) true:=J.type.andThen (PySem.W.looks_mroIn I.kIn (by
  unfold PySem.W.mroIn;rw[hc,Option.bind_some,if_neg (by rw[ne];decide),(zbm ho).2]))
 have I':=I.tok (s.toks+1);obtain⟨hp,g,dr,tk,os⟩:=s;unfold getAttr getAttrBy;refine wpAny_bind (wpAny_mkText (wpAny_holding (wpAny_bind (L0.at (wpAny_bind (L1.at ?_))))));dsimp only;rw[if_neg (by simp)];unfold getAttrByItsOwn hookBefore;rw[if_pos (by rfl)];refine wpAny_bind (L2'.at ?_);refine wpAny_bind (wpAny_attempt (wpAny_holding ?_));unfold callGetattribute;rw[if_neg (by cases b <;> decide)];unfold boundAndCalled;rw[FX.ga.bind];refine wpAny_bind (wpAny_pure (wpAny_call ?_));refine codeAny_call_builtin FX.ga.plain PySem.F.entry_bexc_ga (@PySem.W.check_slot (model X.prog X.w) _ _ ⟨hp,g,dr,tk+1,os⟩ "BaseException.__getattribute__" "BaseException" "__getattribute__" (.ref a) [.str f tk] [] _ zoZ zoG sub (PySem.F.args_bexc_ga _ _) ?_);show wpAny _ _ (typeOf (.ref a) >>= fun tp=>Builtin.ObjectAttr.find (.ref a) tp f >>= _) _ _ _;refine wpAny_bind (L0.at (wpAny_bind (LF.at ?_)));refine wpAny_pure ?_;show wpAny _ _ (handedOut u) _ _ _;rw[PySem.W.handedOut_of (ziT ru)];exact wpAny_pure (h u _ I' ru)
end
end L2
end
section
set_option maxHeartbeats 1000000
namespace L2
open PySem PySem.Spec PyProof.Rows
def zp0 (K:PySem.W.Frag) (ta:TE) (f:Str):TE:=fun σ H Q=>ta σ H fun x H1=>∃a C fr d tb fs v,x=.ref a/\H1 a=some (xO C fr (some d) tb a)/\H1 d=some (.xd fs)/\zjX K C/\NoAttr K C f/\fs.lookup f=some v/\Q v H1
def zqU (K:PySem.W.Frag) (ta tv:TE) (f:Str):TS:=fun D σ H=>tv σ H fun y H1=>ta σ H1 fun x H2=>∃a C fr dx tb,x=.ref a/\H2 a=some (xO C fr dx tb a)/\zjX K C/\NoAttr K C f /\
 ((dx=none/\∀d H3,H2 d=none->d≠a->H3 a=some (xO C fr (some d) tb a)->H3 d=some (.xd [(f,y)])->(∀b,b≠a->b≠d->H3 b=H2 b)->D.nx σ H3) \/
   ∃d fs,dx=some d/\H2 d=some (.xd fs)/\fs.length<1000/\D.nx σ (upd H2 d (.xd (zcf f y fs))))
section
variable {X:Cx}{o e value:Expr}{f:Str}{pos pos':Pos}{ta tv:TE}
theorem zpa (he:PE X e ta) (hb:attributeBase e f X.env (eval e X.env)=eval e X.env):PE X (.Attribute e f pos) (zp0 X.K ta f):=by
 intro pins s σ H Q I h;refine zmr hb (thn (he pins s σ H _ I h) fun u s1 ⟨x,H1,I1,rx,a,C,fr,d,tb,fs,v,ex,ea,ed,c,n,l,q⟩=>?_);subst ex;obtain rfl:u=Value.ref a:=rx;exact zo5 I1 ea ed c n l fun u' s2 I2 ru=>⟨v,H1,I2,ru,q⟩
theorem ze9 (ha:PE X o ta) (hv:PE X value tv) (hs:swapsWith value (some (.Attribute o f pos')) pos.line X.env=pure false):PS X (.Assign [.Attribute o f pos'] value pos) (zqU X.K ta tv f):=by
 intro pins s σ H D I h;refine plainObj_wpAny_Assign_Attribute (thn (hv pins s σ H _ I h) fun u s1 ⟨y,H1,I1,ry,q⟩=>thn (ha pins s1 σ H1 _ I1 q) fun ov s2 ⟨x,H2,I2,rx,a,C,fr,dx,tb,ex,ea,c,n,q2⟩=>?_) hs;subst ex;obtain rfl:ov=Value.ref a:=rx;rcases q2 with⟨rfl,q2⟩|⟨d,fs,rfl,ed,l,q2⟩
 ·exact znK I2 ea c n ry fun d H3 s3 dn da I3 e3 e4 kp=>⟨σ,H3,I3,q2 d H3 dn da e3 e4 kp⟩
 ·exact zop I2 ea ed c n l ry fun s3 I3=>⟨σ,_,I3,q2⟩
end
structure CAt (K:PySem.W.Frag) (C:Addr) (m:Str) (f:Addr):Prop where
 ga:PySem.W.specialIn K (.ref C) "__getattribute__" = some (some (.builtin "type.__getattribute__"))
 rd:PySem.W.readsIn K C (.type "type")=true
 fd:PySem.W.findCls K (.ref C) (.type "type") m=some (.val (.ref f))
 kp:PySem.W.keepIn K (.ref f)=true
section
variable {X:Cx}{W:WX}{CX:CXT}{k:Nat}{f C:Addr}{fd:FuncData}{ps:List Str}{sp:Sp}{x m:Str}{p pos apos:Pos}{e:Expr}{es:List Expr}{t:TA}{cm:Bool}
theorem zkt {pl:Sem Bool}(F:FnOk X.prog X.w X.K X.mg X.base CX cm k f fd ps sp) (hr:Room cm k X.A) (hg:Gl X x) (hm:X.mg x=some (.ref C)) (hc:CAt X.K C m f) (hb:Binds X.K fd ps []) (hx:zcF CX X W) (ha:PA X (e::es) t)
  (hdb:(x == ("__debug__" : Str))=false:=by decide)
  (hst:starEach (e::es) X.env=(false,eval e X.env)::starEach es X.env:=by rfl) (hpl:(backTo pos (starEach es X.env)).any (·.1)=false:=by rfl)
  (ht:eval (.Call (.Attribute (.Name x p) m apos) (e::es) [] pos) X.env=(do
    let ov <-eval (.Name x p) X.env
    standAt apos.atName
    let (f,first) <-holding [ov] (getMethod ov m pl)
    callWith pos f first (backTo pos (starEach (e::es) X.env)) (backToKw pos (keywordEach [] X.env))):=by rfl) :
  PE X (.Call (.Attribute (.Name x p) m apos) (e::es) [] pos) (zpU sp [] W t):=by
 intro pins s σ H Q I h;refine PySem.W.methodCall_KW (pl:=pl) (zbI I hg hm ?_ hdb) ht;refine PySem.W.method_cls I.kIn hc.ga (PySem.W.cls_value I.kIn hc.rd hc.fd rfl ?_);have I0:=I.tok (s.toks+1);refine PySem.W.callWith_K (h₀:=X.base) I.ok.mod.kin hc.kp (thn (ha pos pins { s with toks:=s.toks+1 } σ H _ I0 h) fun us s1 ⟨vs,H1,I1,r,q⟩=>⟨I1.kIn,?_⟩) hst hpl;exact zj7 F hr hb .nil hx I1 r q
end
end L2
end
namespace L2
open PySem PySem.Spec PyProof.Rows
section
variable {X:Cx}
theorem zkB {E:XK}{pins:List (Addr×Obj)}{s:Shared}{σ:St}{H:Hp}{Q:VK}{elt tg iter:Expr}{ifs:List Expr}{scope:Scope}{own:List (Str×Nat)}{pos pos':Pos}{wi:TI}{g:TG}{tt:TT}{te:TE}{use:Option (Value->Sem Unit)}{Qf:Value->Shared->Prop}
  (tk:Takes X (fun _=>E)) (hst:X.stack=X.env::X.outer) (hfm:X.env.frame=some X.env.locals) (hc:X.calm=true) (hN:X.N.Nodup) (I:Inv X pins σ H s) (hi:PI X tg iter wi) (ok:zky X.N X.env.scope scope own)
  (hg:∀(s:Shared) (H:Hp) (C:Addr) (cl:List (Str×Addr)) (fp:List Addr) (xe:Value->Shared->Prop),Takes ((X.blk s H scope (compEnvC scope cl C X.env) fp).wish xe) (fun _=>E)->PG ((X.blk s H scope (compEnvC scope cl C X.env) fp).wish xe) tg g) (ht:∀(s:Shared) (H:Hp) (C:Addr) (cl:List (Str×Addr)) (fp:List Addr) (xe:Value->Shared->Prop),Takes ((X.blk s H scope (compEnvC scope cl C X.env) fp).wish xe) (fun _=>E)->PTs ((X.blk s H scope (compEnvC scope cl C X.env) fp).wish xe) ifs tt)
  (he:∀(s:Shared) (H:Hp) (C:Addr) (cl:List (Str×Addr)) (fp:List Addr) (xe:Value->Shared->Prop),Takes ((X.blk s H scope (compEnvC scope cl C X.env) fp).wish xe) (fun _=>E)->PE ((X.blk s H scope (compEnvC scope cl C X.env) fp).wish xe) elt te) (hs:∀x,foldedSetIterable iter X.env x=pure x)
  (h:tLc wi g tt te (own.map (·.2)) σ H Q)
  (hRR:∀D C s' m H',Inv X pins σ H' s'->Q (.ref D) H'->s'.heap.Ns C m->zgV X pins H' C->compPost (model X.prog X.w) X.A X.xe use Qf (.ref D) C (.ok .next) s') :
  wpAny (model X.prog X.w) X.A (comprehension (.ListComp elt [⟨tg,iter,ifs,0⟩] scope pos) scope X.env pos' (newList []) false (eval iter X.env) use) Qf X.xe s:=by
 have hfree:∀y∈scope.names,y.2=.free->∃c,X.env.cells.lookup y.1=some c:=fun y hy e=>by
  rcases ok.free y hy e with k|k
  ·exact I.ok.has _ (.inl k)
  ·exact I.ok.has _ (.inr k)
 refine wpAny_comprehension_free (use:=use) rfl hs (zlt hfree) ok.kind (fun y hy e=>by rw[ok.uniq y hy,e])
  (thn (hi pins s σ H _ I h) fun xv s1 hx=>thn hx fun itv s2 h2=>?_)
 obtain⟨it,fp,tn,J,H2,e,I2,T,st2,f2,q⟩:=h2;subst e;refine wpAny_newObj_type (zki ?_) (by show 0<=sizeLine;decide);generalize hD:s2.heap.objs.size=D;have hDn:H2 D=none:=I2.hok.fresh (Nat.le_of_eq hD);obtain⟨W,⟨m0,w0⟩,turn⟩:=q D hDn;generalize hs3:({ s2 with heap:=s2.heap.push { cls:=.type "list",data:=.seq ([]:List Value).toArray } }:Shared)=s3;have I3:Inv X pins σ (upd H2 D (.lst [])) s3:=by
  rw[<-hs3];refine I2.laid (t':=s2.toks) (fun b o e=>Heap.get?_push_of_some _ e) (Nat.le_of_eq hD) ⟨Nat.zero_le _,[],0,.nil,?_⟩;rw[<-hD];exact Heap.get?_push_size _ rfl
 have h3:s3.heap=s2.heap.push { cls:=.type "list",data:=.seq ([]:List Value).toArray }:=by rw[<-hs3]
 have sz:∀b∈fp,b<s2.heap.objs.size:=fun b hb=>by
  obtain⟨o,e,_⟩:=T.obj _ _ st2 b hb;exact Heap.lt_size e
 have f3:∀b∈fp,zgV X pins (upd H2 D (.lst [])) b/\b<s3.heap.objs.size:=fun b hb=>by
  have hlt:=sz b hb;refine⟨⟨?_,(f2 b hb).2⟩,by rw[h3,Heap.size_push];exact Nat.lt_succ_of_lt hlt⟩;rw[zd (by rw[<-hD];exact Nat.ne_of_lt hlt)];exact(f2 b hb).1
 have st3:tn 0 s3.heap:=T.keep _ _ _ st2 fun b _ o e=>by rw[h3];exact Heap.get?_push_of_some _ e
 have I4:=zkQ I3 ok hN f3
 let RR:=compPost (model X.prog X.w) X.A X.xe use Qf (.ref D) s3.heap.objs.size
 let xeB:Value->Shared->Prop:=notedBy (model X.prog X.w) X.A (compEnvC scope (cellsFrom (s3.heap.objs.size+1) scope.names (z5 X.env.cells scope.names [])) s3.heap.objs.size X.env) (fun e s'=>RR (.error e) s')
 have tkB:Takes ((X.blk s3 (upd H2 D (.lst [])) scope (compEnvC scope (cellsFrom (s3.heap.objs.size+1) scope.names (z5 X.env.cells scope.names [])) s3.heap.objs.size X.env) fp).wish xeB) (fun _=>E):=by
  refine⟨fun p5 σ5 H5 s5 a5 C5 fr5 dx5 I5 l5 w5=>?_,PassesOwn.looking⟩;refine zg5 (X:=(X.blk s3 (upd H2 D (.lst [])) scope (compEnvC scope (cellsFrom (s3.heap.objs.size+1) scope.names (z5 X.env.cells scope.names [])) s3.heap.objs.size X.env) fp).wish xeB) (L:=X.env.locals) I5 I5.ok.frames hst hfm hfm l5 fun H6 s6 I6 m6 l6=>?_;have I7:Inv X pins σ H6 s6:=I3.call' (ch:=fp) I6.os I6.base I6.hok I6.bare fun b hb=>⟨(f3 b hb).1.2.2.2.1,(f3 b hb).1.2.1,(f3 b hb).1.2.2.2.2.1,(f3 b hb).1.2.2.2.2.2⟩
  have nC:H6 s3.heap.objs.size=none:=I6.free;obtain⟨m7,hn7,_⟩:=I6.loc;have hn7:s6.heap.Ns s3.heap.objs.size m7:=hn7;have F7:zgV X pins H6 s3.heap.objs.size:=I3.fpOk (Nat.le_refl _) nC;obtain⟨f0,f1,f2,f3',f4,f5⟩:=F7;refine⟨m7,hn7,fun h8 sb8 cenv hce=>?_⟩;have I8:Inv X pins σ H6 { s6 with heap:=h8 }:=I7.turned (t':=s6.toks) (fun b o hb e=>(sb8.2 b hb).trans e) f0 f1 f3' f4 f5;exact zf6 I8 l6 fun H9 s9 I9 m9 l9=>tk.th pins σ H9 s9 a5 C5 fr5 dx5 I9 l9.live (by rw[m9,m6];exact w5)
 have pg:=hg s3 (upd H2 D (.lst [])) s3.heap.objs.size (cellsFrom (s3.heap.objs.size+1) scope.names (z5 X.env.cells scope.names [])) fp xeB tkB;have pt:=ht s3 (upd H2 D (.lst [])) s3.heap.objs.size (cellsFrom (s3.heap.objs.size+1) scope.names (z5 X.env.cells scope.names [])) fp xeB tkB;have pe:=he s3 (upd H2 D (.lst [])) s3.heap.objs.size (cellsFrom (s3.heap.objs.size+1) scope.names (z5 X.env.cells scope.names [])) fp xeB tkB;clear tkB;show codeAny _ _ (.compStart (.ListComp elt [⟨tg,iter,ifs,0⟩] scope pos) 0 (.ref it) (.ref D) (compEnvC scope (cellsFrom (s3.heap.objs.size+1) scope.names (z5 X.env.cells scope.names [])) s3.heap.objs.size X.env)) (compPost (model X.prog X.w) X.A X.xe use Qf (.ref D) s3.heap.objs.size) { s3 with heap:=pushCells (s3.heap.push { cls:=.type "dict",data:=.dict #[] }) scope.names };have nfp:∀b∈fp,(upd H2 D (.lst [])) b=none:=fun b hb=>(f3 b hb).1.1;have hxe:xeB=notedBy (model X.prog X.w) X.A (compEnvC scope (cellsFrom (s3.heap.objs.size+1) scope.names (z5 X.env.cells scope.names [])) s3.heap.objs.size X.env) (fun e s'=>RR (.error e) s'):=rfl
 clear_value xeB
 generalize hce:compEnvC scope (cellsFrom (s3.heap.objs.size+1) scope.names (z5 X.env.cells scope.names [])) s3.heap.objs.size X.env=ce at I4 pg pt pe hxe ⊢;have cL:ce.locals=s3.heap.objs.size:=by subst hce;rfl
 generalize hH3:upd H2 D (.lst [])=H3 at I3 I4 pg pt pe w0 nfp f3;generalize hs4:({ s3 with heap:=pushCells (s3.heap.push { cls:=.type "dict",data:=.dict #[] }) scope.names }:Shared)=s4 at I4 ⊢;have st4:tn 0 s4.heap:=T.keep _ _ _ st3 fun b _ o e=>by rw[<-hs4];exact pushCells_keeps _ _ _ _ (Heap.get?_push_of_some _ e)
 have stat:∀{σ':St} {H':Hp} {s':Shared},Inv (X.blk s3 H3 scope ce fp) [] σ' H' s'->(∀b∈fp,H' b=none)->∀b∈fp,zgV (X.blk s3 H3 scope ce fp) [] H' b:=fun{σ' H' s'} I' hn b hb =>
  ⟨hn b hb,(I'.ok.exf b hb).1,I'.ok.exfs b hb,.inl hb,fun x c e=>(I'.ok.exf b hb).2 x c e,fun p hp=>absurd (show p∈([]:List (Addr×Obj))++[] from hp) (by simp)⟩
 have loop:codeAny (model X.prog X.w) X.A (.compLoop (.ListComp elt [⟨tg,iter,ifs,0⟩] scope pos) 0 (.ref it) (.ref D) ce) (compPost (model X.prog X.w) X.A X.xe use Qf (.ref D) s3.heap.objs.size) s4:=by
  refine zjq (fun n s'=>∃i H',Inv (X.blk s3 H3 scope ce fp) [] (yF σ (own.map (·.2))) H' s'/\tn i s'.heap/\(∀b∈fp,H' b=none)/\W i n H') ?_ m0 ⟨0,H3,I4,st4,nfp,w0⟩;rintro n s5 ⟨i,H5,I5,st5,n5,w5⟩;rcases turn i n H5 w5 with⟨stop,qq⟩|⟨go,Nx,hNx,step⟩
  ·have td:=T.done (X.blk s3 H3 scope ce fp) rfl rfl rfl hc i [] s5 _ H5 (fun _ _=>False) I5 (stat I5 n5) st5 stop;refine zp5 td fun r s6 ⟨hr,I6⟩=>?_;subst hr;have I7:Inv X pins σ H5 s6:=I3.call' (ch:=fp) I6.os I6.base I6.hok I6.bare fun b hb=>⟨(f3 b hb).1.2.2.2.1,(f3 b hb).1.2.1,(f3 b hb).1.2.2.2.2.1,(f3 b hb).1.2.2.2.2.2⟩
   have nC:H5 s3.heap.objs.size=none:=by
    have z:H5 ce.locals=none:=I6.free;rw[cL] at z;exact z
   obtain⟨m,hn,_⟩:=I6.loc;have hn:s6.heap.Ns ce.locals m:=hn;rw[cL] at hn;exact hRR D s3.heap.objs.size s6 m H5 I7 qq hn (I3.fpOk (Nat.le_refl _) nC)
  ·have ti:=T.item (X.blk s3 H3 scope ce fp) rfl rfl rfl hc i [] s5 _ H5 (fun _ _=>False) I5 (stat I5 n5) st5 go;refine zp5 ti fun r s6 ⟨u,hr,h6⟩=>?_;subst hr;refine zp5 h6 fun _ s7 ⟨x,H7,I7,r7,y7,st7,n7⟩=>?_;have I7':=I7.pinned (stat I7 n7) (T.obj _ _ st7);refine wpAny_mono (pg _ s7 _ H7 x u _ (I7'.wish xeB) r7 (step x H7 y7)) (fun _ s8 ⟨σ8,H8,I8w,hw8,q8⟩=>?_) fun _ _ z=>(by rw[<-hxe];exact z)
   have I8:=I8w.unwish;refine wpAny_mono (pt _ s8 σ8 H8 _ (I8.wish xeB) q8) (fun b s9 ⟨H9,I9w,q9⟩=>?_) fun _ _ z=>(by rw[<-hxe];exact z)
   have I9:=I9w.unwish;have fin:∀{s':Shared} {H':Hp},Inv (X.blk s3 H3 scope ce fp) ([]++zhU fp s7.heap) σ8 H' s'->Nx H'->∃m,m<n/\∃i H',Inv (X.blk s3 H3 scope ce fp) [] (yF σ (own.map (·.2))) H' s'/\tn i s'.heap/\(∀b∈fp,H' b=none)/\W i m H':=fun{s' H'} I' nx=>by
    obtain⟨m',hm,w'⟩:=hNx H' nx;have pin':∀b∈fp,∀o,s7.heap.get? b=some o->s'.heap.get? b=some o/\H' b=none:=fun b hb o e =>
     let z:=I'.pin (b,o) (List.mem_append_right _ (List.mem_append_right _ (zeH hb e)))
     ⟨z.1,z.2.1⟩
    have hl:(yF σ (own.map (·.2))).length=σ8.length:=by rw[<-hw8,zdv]
    refine⟨m',hm,i+1,H',(I'.unpinned (pins:=[])).weak hl (fun j v e=>?_),T.keep _ _ _ st7 fun b hb o e=>(pin' b hb o e).1,fun b hb=>?_,w'⟩
    ·rw[<-hw8] at e;exact(zgg e).1
    ·obtain⟨o,e,_⟩:=T.obj _ _ st7 b hb;exact(pin' b hb o e).2
   cases b with
   |false =>
    simp only[Bool.false_eq_true,if_false] at q9 ⊢;exact fin I9 q9
   |true =>
    simp only[if_true] at q9 ⊢;refine wpAny_mono (pe _ s9 σ8 H9 _ (I9.wish xeB) q9) (fun z s10 ⟨yv,H10,I10w,r10,acc,hD10,hz10,nx⟩=>?_) fun _ _ z=>(by rw[<-hxe];exact z)
    have I10:=I10w.unwish;exact zqH (X:=X.blk s3 H3 scope ce fp) I10 hD10 hz10 r10 fun s11 I11=>fin I11 nx
 exact codeAny_compStart_list loop (T.self X.A 0 _ _ _ st4 loop)
theorem zcU {E:XK}{elt tg iter:Expr}{ifs:List Expr}{scope:Scope}{own:List (Str×Nat)}{pos:Pos}{wi:TI}{g:TG}{tt:TT}{te:TE}(tk:Takes X (fun _=>E)) (hst:X.stack=X.env::X.outer) (hfm:X.env.frame=some X.env.locals) (hc:X.calm=true) (hN:X.N.Nodup) (hi:PI X tg iter wi) (ok:zky X.N X.env.scope scope own)
  (hg:∀(s:Shared) (H:Hp) (C:Addr) (cl:List (Str×Addr)) (fp:List Addr) (xe:Value->Shared->Prop),Takes ((X.blk s H scope (compEnvC scope cl C X.env) fp).wish xe) (fun _=>E)->PG ((X.blk s H scope (compEnvC scope cl C X.env) fp).wish xe) tg g) (ht:∀(s:Shared) (H:Hp) (C:Addr) (cl:List (Str×Addr)) (fp:List Addr) (xe:Value->Shared->Prop),Takes ((X.blk s H scope (compEnvC scope cl C X.env) fp).wish xe) (fun _=>E)->PTs ((X.blk s H scope (compEnvC scope cl C X.env) fp).wish xe) ifs tt)
  (he:∀(s:Shared) (H:Hp) (C:Addr) (cl:List (Str×Addr)) (fp:List Addr) (xe:Value->Shared->Prop),Takes ((X.blk s H scope (compEnvC scope cl C X.env) fp).wish xe) (fun _=>E)->PE ((X.blk s H scope (compEnvC scope cl C X.env) fp).wish xe) elt te) (hs:∀x,foldedSetIterable iter X.env x=pure x:=by intro _;rfl) :
  PE X (.ListComp elt [⟨tg,iter,ifs,0⟩] scope pos) (tLc wi g tt te (own.map (·.2))):=by
 intro pins s σ H Q I h;rw[eval_ListComp];refine zkB tk hst hfm hc hN I hi ok hg ht he hs h fun D C s' m H' I' q hn f=>⟨m,hn,fun h'' sb=>?_⟩
 obtain⟨f0,f1,f2,f3,f4,f5⟩:=f;exact⟨.ref D,H',I'.turned (t':=s'.toks) (fun b o hb e=>(sb.2 b hb).trans e) f0 f1 f3 f4 f5,rfl,q⟩
theorem zbd {E:XK}{i:Nat}{y:Str}{py:Pos}{elt tg iter:Expr}{ifs:List Expr}{scope:Scope}{own:List (Str×Nat)}{pos spos:Pos}{wi:TI}{g:TG}{tt:TT}{te:TE}(tk:Takes X (fun _=>E)) (hst:X.stack=X.env::X.outer) (hfm:X.env.frame=some X.env.locals) (hc:X.calm=true) (hN:X.N.Nodup) (hy:X.N[i]?=some y) (hyl:X.env.scope.names.lookup y=some .local)
  (hsw:swapsWith (.ListComp elt [⟨tg,iter,ifs,0⟩] scope pos) (some (.Name y py)) spos.line X.env=pure true) (hi:PI X tg iter wi) (ok:zky X.N X.env.scope scope own)
  (hg:∀(s:Shared) (H:Hp) (C:Addr) (cl:List (Str×Addr)) (fp:List Addr) (xe:Value->Shared->Prop),Takes ((X.blk s H scope (compEnvC scope cl C X.env) fp).wish xe) (fun _=>E)->PG ((X.blk s H scope (compEnvC scope cl C X.env) fp).wish xe) tg g) (ht:∀(s:Shared) (H:Hp) (C:Addr) (cl:List (Str×Addr)) (fp:List Addr) (xe:Value->Shared->Prop),Takes ((X.blk s H scope (compEnvC scope cl C X.env) fp).wish xe) (fun _=>E)->PTs ((X.blk s H scope (compEnvC scope cl C X.env) fp).wish xe) ifs tt)
  (he:∀(s:Shared) (H:Hp) (C:Addr) (cl:List (Str×Addr)) (fp:List Addr) (xe:Value->Shared->Prop),Takes ((X.blk s H scope (compEnvC scope cl C X.env) fp).wish xe) (fun _=>E)->PE ((X.blk s H scope (compEnvC scope cl C X.env) fp).wish xe) elt te) (hs:∀x,foldedSetIterable iter X.env x=pure x:=by intro _;rfl) :
  PS X (.Assign [.Name y py] (.ListComp elt [⟨tg,iter,ifs,0⟩] scope pos) spos) (zqS (tLc wi g tt te (own.map (·.2))) (zfL i)):=by
 intro pins s σ H D I h;rw[exec_Assign_Name_used _ _ _ _ hsw];refine wpAny_bind (wpAny_standAt (wpAny_bind ?_));show wpAny _ X.A (do let _ <-comprehension (.ListComp elt [⟨tg,iter,ifs,0⟩] scope pos) scope X.env (firstIterPos [⟨tg,iter,ifs,0⟩] pos) (newList []) false (eval iter X.env) (some (assign (.Name y py) X.env))) _ _ s;have h:tLc wi g tt te (own.map (·.2)) σ H (fun x H1=>zfL i x σ H1 D.nx):=h;refine wpAny_bind (thn (zkB (Qf:=fun _ s'=>SP X pins D .next s') tk hst hfm hc hN I hi ok hg ht he hs h fun L C s' m H' I' q hn f=>?_) fun _ s' hq=>wpAny_pure (wpAny_pure hq));show wpAny _ _ (assign (.Name y py) X.env (.ref L)) _ _ _;refine wpAny_assign_Name (zjd (v:=V.ref L) I' hN hy (.inl hyl) rfl (fun s2 I2 ⟨a,sb,ha⟩=>?_) (.inr hyl));obtain⟨f0,f1,f2,f3,f4,f5⟩:=f;have haC:C≠a:=by
  rcases ha with z|z
  ·rw[z];exact f1
  ·exact fun e=>f4 y a z e.symm
 refine⟨m,hn.sameBut sb haC,fun h3 sb3=>?_⟩;exact⟨_,H',I2.turned (t':=s2.toks) (fun b o hb e=>(sb3.2 b hb).trans e) f0 f1 f3 f4 f5,q⟩
end
end L2
section
namespace HT
open PySem PyProof.Rows
def lexGt:List Int->List Int->Bool
 |[],[]=>false
 |[],_::_=>false
 |_::_,[]=>true
 |x::xs,y::ys=>if x=y then lexGt xs ys else decide (y<x)
theorem lexGt_cons (x y:Int) (xs ys:List Int):lexGt (x::xs) (y::ys)=if x=y then lexGt xs ys else decide (y<x):=rfl
theorem lexGt_nil_nil:lexGt [] []=false:=rfl
theorem zhB (y:Int) (ys:List Int):lexGt [] (y::ys)=false:=rfl
theorem zhP (x:Int) (xs:List Int):lexGt (x::xs) []=true:=rfl
theorem zoH (A:Around) (s:Shared) (a:Int) (t:Tok) (c:Int) (u:Tok) (prog:Program) (w:World) (E:Value->Shared->Prop) (Q:Value->Shared->Prop) (h:Q (.bool (decide (c<a))) s) :
  wpAny (model prog w) A (richCompare .Gt (.int a t) (.int c u)) Q E s :=
 (PyProof.Rows.gt_int h:wpAny (model prog w) A (compareOp .Gt (.int a t) (.int c u)) Q E s)
section
open PySem.SeqAt
open PySem.AutoSeq1 (wpAny_loadPart')
open PySem.MeetsSeq PySem.MeetsSeq2 PySem.MeetsSeq3
theorem ziu (l b:Addr) (items items2:Array Value) (n n2:Nat) (dd dd2:Option Addr) (sl sl2:Array (Option Value)) (ns ms:List Int) (hi:IntsAre items.toList ns) (hj:IntsAre items2.toList ms) :
  Meets (Builtin.«tuple.__gt__» ⟨[.ref l,.ref b],[]⟩)
   (fun _ R s=>s.heap.get? l=some { cls:=.type "tuple",dict:=dd,data:=.seq items n,slots:=sl }/\s.heap.get? b=some { cls:=.type "tuple",dict:=dd2,data:=.seq items2 n2,slots:=sl2 } /\
     R (.ok (.ret (.bool (lexGt ns ms)))) s) :=
 .of_wp fun prog w A R s h=>by
  obtain⟨hp,g,d,tk,os⟩:=s;obtain⟨hl,hb,h⟩:=h;have f2:=AutoSeq1.sub_tuple_tuple;have z1:items.size=ns.length:=by rw[<-hi.length];simp
  have z2:items2.size=ms.length:=by rw[<-hj.length];simp
  wp_walk using wpAny_loadPart' hl,wpAny_loadPart' hb,wpAny_forIn_list _ (fun rest b s'=>b.1=none/\s'=⟨hp,g,d,tk,os⟩/\∃(vs ws:List Value) (ns' ms':List Int),rest=vs.zip ws /\
   IntsAre vs ns'/\IntsAre ws ms'/\ns'.length+items2.size=ms'.length+items.size/\R (.ok (.ret (.bool (lexGt ns' ms')))) ⟨hp,g,d,tk,os⟩) _
  case turn =>
   rintro⟨y,x⟩ rest b s' ⟨hb',rfl,vs,ws,ns',ms',hz,hvi,hwi,hlen,hR⟩;cases hvi with
   |nil=>rw[List.zip_nil_left] at hz;cases hz
   |cons a t hvi' =>
    cases hwi with
    |nil=>rw[List.zip_nil_right] at hz;cases hz
    |cons c u hwi' =>
     rw[List.zip_cons_cons] at hz;injection hz with hyx hrest;injection hyx with hy hx;subst hy hx;rw[lexGt_cons] at hR;simp only[List.length_cons] at hlen;obtain⟨e,he,hiff⟩:=zk4 A.in1 ⟨hp,g,d,tk,os⟩ a t c u;refine wpAny_bind (he prog w _ _ ?_);cases e with
     |true =>
      rw[if_pos (hiff.mp rfl)] at hR
      wp_walk
      exact⟨rfl,rfl,_,_,_,_,hrest,hvi',hwi',by omega,hR⟩
     |false =>
      rw[if_neg (fun q=>absurd (hiff.mpr q) Bool.false_ne_true)] at hR;have hri:=zoH A.in1 ⟨hp,g,d,tk,os⟩ a t c u prog w
      wp_walk using hri
      exact⟨_,rfl,by simpa using hR⟩
  case fin =>
   rintro⟨b1,b2⟩ s' ⟨hb',rfl,vs,ws,ns',ms',hz,hvi,hwi,hlen,hR⟩;simp only at hb';subst hb';have hv:lexGt ns' ms'=decide (items2.size<items.size):=by
    cases hvi with
    |nil =>
     cases hwi with
     |nil =>
      simp only[List.length_nil] at hlen;rw[lexGt_nil_nil];exact(decide_eq_false (by omega)).symm
     |cons c u hw =>
      simp only[List.length_nil,List.length_cons] at hlen;rw[zhB];exact(decide_eq_false (by omega)).symm
    |cons a t hv =>
     cases hwi with
     |nil =>
      simp only[List.length_nil,List.length_cons] at hlen;rw[zhP];exact(decide_eq_true (by omega)).symm
     |cons c u hw =>
      rw[List.zip_cons_cons] at hz;cases hz
   rw[hv] at hR
   wp_walk
   exact⟨_,rfl,by simpa[Builtin.Tuple.tupleCompareSizes] using hR⟩
  case h =>
   exact⟨rfl,rfl,items.toList,items2.toList,ns,ms,rfl,hi,hj,by omega,h⟩
end
theorem gt_tupInts {prog:Program}{w:World}{A:Around}{E:Value->Shared->Prop}{s:Shared}{l b:Addr}{items items2:Array Value}{ns ms:List Int}{Q:Value->Shared->Prop}(hl:IsTup s.heap l items) (hb:IsTup s.heap b items2) (hi:IntsAre items.toList ns) (hj:IntsAre items2.toList ms)
  (hu:A.units<cLine) (h:Q (.bool (lexGt ns ms)) s):wpAny (model prog w) A (compareOp .Gt (.ref l) (.ref b)) Q E s:=by
 obtain⟨⟨cls,dd,data,sl⟩,ho,hc,n,hd⟩:=id hl;obtain⟨⟨cls2,dd2,data2,sl2⟩,ho2,hc2,n2,hd2⟩:=id hb;simp only at hc hd hc2 hd2;subst hc hd hc2 hd2;exact richCompare_meets_room (op:=.Gt) ⟨_,ho,rfl⟩ ⟨_,ho2,rfl⟩ PySem.F.slot_tuple_gt PySem.F.entry_tuple_gt (PySem.F.args_tuple_gt_2 _ _) (ziu l b items items2 n n2 dd dd2 sl sl2 ns ms hi hj)
  ⟨ho,ho2,show Value.bool (lexGt ns ms)≠Value.notImplemented/\Q (.bool (lexGt ns ms)) s from⟨(fun x=>nomatch x),h⟩⟩ hu
end HT
namespace L2
open PySem PySem.Spec PyProof.Rows
open PySem.AutoSeq1 (wpAny_loadPart')
def zrH (K:PySem.W.Frag):R2:=fun x y H Q=>∃a b ns ms,x=.ref a/\y=.ref b/\SqT K H a (ns.map V.int)/\SqT K H b (ms.map V.int)/\Q (.bl (HT.lexGt ns ms)) H
theorem zqr {X:Cx}(hu:X.A.units<cLine):OpR X (compareOp .Gt) (zrH X.K):=by
 intro pins s σ H x y v u Q I rx ry h;obtain⟨a,b,ns,ms,rfl,rfl,ha,hb,q⟩:=h;cases rx;cases ry;obtain⟨its,r1,p1,_⟩:=I.tuple ha;obtain⟨its2,r2,p2,_⟩:=I.tuple hb;have i1:IntsAre its.toArray.toList ns:=zcM r1;have i2:IntsAre its2.toArray.toList ms:=zcM r2;exact HT.gt_tupInts p1 p2 i1 i2 hu ⟨.bl (HT.lexGt ns ms),H,I,rfl,q⟩
section
variable {prog:Program}{w:World}{A:Around}{E:Value->Shared->Prop}{s:Shared}
theorem zlX {it t:Addr}{i:Nat}{items:Array Value}{x:Value}{Q:Value->Shared->Prop}(hit:s.heap.IsTupleIter it t i) (ht:s.heap.IsTuple t items) (hx:items[i]?=some x)
  (hQ:∀h',h'.IsTupleIter it t (i+1)->Heap.SameBut it s.heap h'->Q x { s with heap:=h' }):wpAny (model prog w) A (Builtin.SmallTypes.nextOf (.ref it)) Q E s:=by
 obtain⟨o,ho,hc,hd⟩:=id hit;obtain⟨ot,hot,_,n,hdt⟩:=ht;unfold Builtin.SmallTypes.nextOf;refine wpAny_bind (wpAny_callSpecial?_slot (name:=Str.ofString "__next__") hit.typeIs F.slot_tuple_iterator_next (wpAny_call_entry F.slot_tuple_iterator_next hit.typeIs F.entry_tuple_iterator_next ?_ (F.args_tuple_iterator_next_1 _)));have nt:¬((Value.ref t == Value.none)=true):=fun z=>nomatch z;show wpAny _ _ (field (.ref it) 0 >>= fun v=>if (v == Value.none)=true then _ else _) _ _ s;refine wpAny_bind (wpAny_field ho hd (x:=.ref t) rfl ?_);rw[if_neg nt];refine wpAny_bind (wpAny_field ho hd (x:=.int i 0) rfl (wpAny_bind (wpAny_seqItems hot hdt ?_)));simp only[Int.toNat_natCast,hx];refine wpAny_bind (wpAny_setField ho hd (by simp) (wpAny_pure ⟨x,rfl,wpAny_pure (hQ _ ⟨_,Heap.get?_update_self _ ho (Obj.isFreed_of_fields (Obj.data_mapFields hd _)),(Obj.cls_mapFields ..).trans hc,?_⟩ (Heap.SameBut.update ..))⟩));rw[Obj.data_mapFields hd];simp[rawInt]
theorem zi4 {it t:Addr}{i:Nat}{items:Array Value}{Q:Value->Shared->Prop}(hh:A.handled=none) (hit:s.heap.IsTupleIter it t i) (ht:s.heap.IsTuple t items) (hx:items[i]?=none)
  (hE:∀h' e,Heap.ExtBut it s.heap h'->(∃o,h'.get? e=some o/\o.cls=.type "StopIteration")->E (.ref e) { s with heap:=h' }):wpAny (model prog w) A (Builtin.SmallTypes.nextOf (.ref it)) Q E s:=by
 obtain⟨o,ho,hc,hd⟩:=id hit;obtain⟨ot,hot,_,n,hdt⟩:=ht;unfold Builtin.SmallTypes.nextOf;refine wpAny_bind (wpAny_callSpecial?_slot (name:=Str.ofString "__next__") hit.typeIs F.slot_tuple_iterator_next (wpAny_call_entry F.slot_tuple_iterator_next hit.typeIs F.entry_tuple_iterator_next ?_ (F.args_tuple_iterator_next_1 _)));have nt:¬((Value.ref t == Value.none)=true):=fun z=>nomatch z;show wpAny _ _ (field (.ref it) 0 >>= fun v=>if (v == Value.none)=true then _ else _) _ _ s;refine wpAny_bind (wpAny_field ho hd (x:=.ref t) rfl ?_);rw[if_neg nt];refine wpAny_bind (wpAny_field ho hd (x:=.int i 0) rfl (wpAny_bind (wpAny_seqItems hot hdt ?_)));simp only[Int.toNat_natCast,hx];refine wpAny_bind (wpAny_rule (wpAny_bind (wpAny_setField ho hd (by simp) ?_)));show wpAny _ _ (newExc (.type "StopIteration") [] >>= _) _ _ _;refine wpAny_bind ?_;simp only[newExc,newTuple];refine wpAny_bind (wpAny_newObj_type ?_ (by size_fits));refine wpAny_bind (m:=firstArgMember _ _) (wpAny_of_eq (a:=Value.none) (by first|rfl|(simp only[firstArgMember];rfl)) ?_);refine wpAny_newObj_type ?_ (by size_fits);simp only[raiseNew];refine wpAny_bind (wpAny_handled ?_)
 first|rw[show A.in1.handled=none from hh]|rw[hh]
 refine wpAny_bind (wpAny_pure (wpAny_throw ?_));exact hE _ _ (((Heap.SameBut.update ..).extBut.push _).push _) ⟨_,Heap.get?_push_size _ rfl,rfl⟩
end
theorem znb {prog:Program}{w:World}{A:Around}(hh:A.handled=none) (it t:Addr) (hne:t≠it) (items:Array Value):Draws prog w A it [it,t] items.size (fun i v=>items[i]?=some v) (fun i h=>h.IsTupleIter it t i/\h.IsTuple t items) where
 live:=fun _ _ st=>let ⟨o,ho,_⟩:=st.1;⟨o,ho⟩
 frame:=fun _ _ _ st hk=>⟨st.1.at fun o e=>hk it (by simp) o e,let ⟨o,ho,r⟩:=st.2;⟨o,hk t (by simp) o ho,r⟩⟩
 item:=fun i s Q E hi st hQ=>zlX st.1 st.2 (x:=items[i]) (by simp[hi]) fun h' a b=>hQ _ h' s.toks (by simp[hi]) ⟨a,st.2.extBut b.extBut hne⟩ b
 done:=fun s Q E st hE=>zi4 hh st.1 st.2 (by simp) hE
section
variable {prog:Program}{w:World}{A:Around}{E:Value->Shared->Prop}{s:Shared}
theorem zgN {e it l:Addr}{i:Nat}{items:Array Value}{x old:Value}{Q:Option Value->Shared->Prop}(he:IsEnum s.heap e it i old) (hit:s.heap.IsTupleIter it l i) (hl:s.heap.IsTuple l items) (hx:items[i]?=some x) (hne:e≠it) (hh:A.handled=none)
  (hQ:∀h' tk,IsEnumOut h' e it ((i:Int)+1) x s.heap.objs.size->h'.IsTupleIter it l (i+1)->h'.get? s.heap.objs.size=some { cls:=.type "tuple",data:=.seq #[.int i tk,x] }->h'.objs.size=s.heap.objs.size+1 ->
    (∀b o,b≠e->b≠it->s.heap.get? b=some o->h'.get? b=some o)->Q (some (.ref s.heap.objs.size)) { s with heap:=h',toks:=tk+1 }):wpAny (model prog w) A (pyNext (.ref e)) Q E s:=by
 have hi:i<items.size:=(Array.getElem?_eq_some_iff.mp hx).1;obtain⟨oi,hoi,hci,_⟩:=id hit;obtain⟨ol,hol,hcl,_⟩:=id hl;have hil:l≠it:=fun z=>by
  subst z;obtain rfl:oi=ol:=Option.some.inj (hoi.symm.trans hol);rw[hci] at hcl;exact absurd hcl (by decide)
 have hel:e≠l:=fun z=>by
  subst z;have q:_=ol:=Option.some.inj (he.symm.trans hol);rw[<-q] at hcl;exact absurd (show Value.type "enumerate" = Value.type "tuple" from hcl) (by decide)
 refine wpAny_pyNext_enum_itemD (znb (A:=A.in1) hh it l hil items) he ⟨hit,hl⟩ hi hne (by simp[hne,hel]) fun y h' tk hy a b c d k=>?_;obtain rfl:x=y:=Option.some.inj (hx.symm.trans hy);exact hQ h' tk a b.1 c d k
theorem zhR {e it l:Addr}{i:Nat}{items:Array Value}{old:Value}{Q:Option Value->Shared->Prop}(hh:A.handled=none) (he:IsEnum s.heap e it i old) (hit:s.heap.IsTupleIter it l i) (hl:s.heap.IsTuple l items) (hx:items[i]?=none)
  (hQ:∀h',Heap.ExtBut it s.heap h'->Q none { s with heap:=h' }):wpAny (model prog w) A (pyNext (.ref e)) Q E s:=by
 have hT:s.TypeIs (.ref e) "enumerate" := ⟨_,he,rfl⟩;unfold pyNext;refine wpAny_bind (wpAny_attempt (wpAny_callSpecial?_slot (name:=Str.ofString "__next__") hT F.slot_enumerate_next (wpAny_call_entry F.slot_enumerate_next hT F.entry_enumerate_next ?_ (F.args_enumerate_next_1 _))));show wpAny _ _ (field (.ref e) 2 >>= _) _ _ _;refine wpAny_bind (wpAny_field he rfl (x:=.ref it) rfl (wpAny_bind (zi4 hh hit hl hx fun h' x k ⟨o,ho,hc⟩=>?_)));exact wpAny_bind (wpAny_isInstance (T := "StopIteration") (b:=true) ⟨o,ho,hc⟩ isSubtype_stop (wpAny_pure (hQ _ k)))
theorem zkV (l:Addr) (items:Array Value) (n:Nat) (dct:Option Addr) (sl:Array (Option Value)) :
  Meets (Builtin.«enumerate.__new__» ⟨[.type "enumerate",.ref l],[]⟩) (fun _ R s=>s.heap.get? l=some { cls:=.type "tuple",dict:=dct,data:=.seq items n,slots:=sl } /\
   R (.ok (.ret (.ref (s.heap.push { cls:=.type "tuple_iterator",data:=.fields #[.ref l,.int 0 0] }).objs.size)))
    { s with heap:=(s.heap.push { cls:=.type "tuple_iterator",data:=.fields #[.ref l,.int 0 0] }).push { cls:=.type "enumerate",data:=.fields #[.none,.bool false,.ref s.heap.objs.size,rawInt 0,.none,.none] } }) :=
 .of_wp fun prog w A R s h=>by
  obtain⟨hp,g,d,tk,os⟩:=s;obtain⟨hl,h⟩:=h;have hsub:=sub_enumerate;have hL:Heap.IsTuple (Shared.heap ⟨hp,g,d,tk,os⟩) l items:=⟨_,hl,rfl,n,rfl⟩
  wp_walk using wpAny_loadPart' hl
  refine wpAny_stack_any fun st=>wpAny_pure ?_;split
  ·rename_i c _ _ _ _ _;cases (c == Value.type "enumerate") <;>
   ·wp_walk using wpAny_loadPart' hl,wpAny_pyIter_tuple hL
    exact⟨_,rfl,h⟩
  ·wp_walk using wpAny_loadPart' hl,wpAny_pyIter_tuple hL
   exact⟨_,rfl,h⟩
theorem zl9 {l:Addr}{items:Array Value}{Q:Value->Shared->Prop}(hL:s.heap.IsTuple l items)
  (h:∀h',IsEnum h' (s.heap.objs.size+1) s.heap.objs.size 0 .none->h'.IsTupleIter s.heap.objs.size l 0->h'.objs.size=s.heap.objs.size+2->(∀b o,s.heap.get? b=some o->h'.get? b=some o)->Q (.ref (s.heap.objs.size+1)) { s with heap:=h' }) :
  wpAny (model prog w) A (call (.type "enumerate") [.ref l]) Q E s:=by
 obtain⟨⟨c,dct,dt,sl⟩,hl,hc,n,hd⟩:=hL;obtain rfl:c=.type "tuple" := hc;obtain rfl:dt=.seq items n:=hd;refine callType_new F.called_enumerate (by decide) (F.typeCall_enumerate_1 _) (F.newCall_enumerate_1 _) (fun obj=>F.args_object_init_2 obj _) F.entry_enumerate_new (zkV l items n dct sl) ⟨hl,?_⟩;have hz:(s.heap.push { cls:=.type "tuple_iterator",data:=.fields #[.ref l,.int 0 0] }).objs.size=s.heap.objs.size+1:=Heap.size_push ..;have z:=Heap.get?_push_size (s.heap.push { cls:=.type "tuple_iterator",data:=.fields #[.ref l,.int 0 0] }) (o:={ cls:=.type "enumerate",data:=.fields #[.none,.bool false,.ref s.heap.objs.size,rawInt 0,.none,.none] }) rfl;show _/\_;rw[hz] at z ⊢;exact⟨⟨_,z,rfl⟩,h _ z ⟨_,Heap.get?_push_of_some _ (Heap.get?_push_size _ rfl),rfl,rfl⟩ (by rw[Heap.size_push,hz]) fun b o q=>Heap.get?_push_of_some _ (Heap.get?_push_of_some _ q)⟩
end
def zoI (K:PySem.W.Frag) (a:Addr):It :=
 ⟨fun i H=>∃(xs:List V) (x:V),SqT K H a xs/\xs[i]?=some x,fun i H v H'=>∃T x,v=.ref T/\H T=none/\H'=upd H T (.tup [.int (i:Nat),x])/\∀xs,SqT K H a xs->xs[i]?=some x,fun i H=>∃xs:List V,SqT K H a xs/\xs.length<=i⟩
theorem zmc {P:Program}{w:World}{K:PySem.W.Frag}{elts:List Expr}{kk:Nat}{tpos:Pos}(a e it:Addr) :
  zkr P w K (.Tuple elts kk tpos) (zoI K a) [e,it] e (fun i h=>(∃old,IsEnum h e it ((i:Nat):Int) old)/\h.IsTupleIter it a i/\e≠it) where
 mem:=by simp
 obj:=fun i h st b hb=>by
  obtain⟨⟨old,he⟩,⟨o,ho,hc,hd⟩,_⟩:=st;have e':b=e\/b=it:=by simpa using hb
  rcases e' with z|z
  ·rw[z];exact⟨_,he,fun v q=>nomatch q⟩
  ·rw[z];exact⟨o,ho,fun v q=>by rw[hd] at q;cases q⟩
 keep:=fun i h h' st k=>let ⟨⟨old,he⟩,hi,hne⟩:=st;⟨⟨old,k e (by simp) _ he⟩,hi.at fun o q=>k it (by simp) o q,hne⟩
 item:=by
  intro X hP hw hK hc i pins s σ H E I hf st hg;subst hP hw hK;obtain⟨⟨old,he⟩,hit,hne⟩:=st;obtain⟨xs,x,hq,hx⟩:=hg;obtain⟨its,rv,p,hz⟩:=I.tuple hq;obtain⟨u,hu,ru⟩:=rv.get hx;have hel:e<s.heap.objs.size:=Heap.lt_size he;have hil:it<s.heap.objs.size:=by obtain⟨_,q,_⟩:=hit;exact Heap.lt_size q
  refine zgN he hit (show s.heap.IsTuple a its.toArray from p) (x:=u) (by simpa using hu) hne (I.ok.hd hc) fun h' tk ho hit' hT hsz hk=>?_;refine⟨_,rfl,wpAny_letOwnedTupleGo_enum (s:={ s with heap:=h',toks:=tk+1 }) ho fun h'' he' sb=>?_⟩;have hT2:h''.get? s.heap.objs.size=some { cls:=.type "tuple",data:=.seq #[.int i tk,u] }:=(sb.2 _ (Nat.ne_of_gt hel)).trans hT;have new:ObjOk X.prog X.w (upd H s.heap.objs.size (.tup [.int (i:Nat),x])) h'' s.heap.objs.size (.tup [.int (i:Nat),x]) :=
   ⟨by show 2<=sizeLine;decide,[.int i tk,u],.cons ⟨_,rfl⟩ (.cons ru .nil),⟨_,hT2,rfl,_,rfl⟩⟩
  have I1:Inv X pins σ (upd H s.heap.objs.size (.tup [.int (i:Nat),x])) { s with heap:=h'',toks:=tk+1 } :=
   I.turnedNew (ch:=[e,it]) (fun b ob hb q=>(sb.2 b (fun z=>hb (by simp[z]))).trans (hk b ob (fun z=>hb (by simp[z])) (fun z=>hb (by simp[z])) q)) hf (Nat.le_refl _) new
  refine⟨.ref s.heap.objs.size,_,I1,rfl,⟨_,x,rfl,I.hok.fresh (Nat.le_refl _),rfl,fun ys hy=>by rw[I.tuple_inj hy hq];exact hx⟩,⟨⟨u,?_⟩,hit'.at fun o q=>(sb.2 it (Ne.symm hne)).trans q,hne⟩,fun b hb=>?_⟩
  ·have e1:((i+1:Nat):Int)=(i:Int)+1:=by omega
   rw[e1];exact he'
  ·have hb':b<s.heap.objs.size:=by
    have e':b=e\/b=it:=by simpa using hb
    rcases e' with z|z
    ·rw[z];exact hel
    ·rw[z];exact hil
   rw[zd (Nat.ne_of_lt hb')];exact(hf b hb).1
 done:=by
  intro X hP hw hK hc i pins s σ H E I hf st hg;subst hP hw hK;obtain⟨⟨old,he⟩,hit,hne⟩:=st;obtain⟨xs,hq,hx⟩:=hg;obtain⟨its,rv,p,hz⟩:=I.tuple hq;obtain⟨f0,f1,f2,f3,f4,f5⟩:=hf it (by simp);have hl:=rv.length;exact zhR (I.ok.hd hc) he hit (show s.heap.IsTuple a its.toArray from p) (by simp;omega) fun h' eb=>⟨rfl,I.turned (t':=s.toks) (fun b o hb q=>eb b o hb q) f0 f1 f3 f4 f5⟩
 self:=fun A i s Q E st h=>let ⟨⟨_,he⟩,_⟩:=st;wpAny_pyIter_enum he h
def zqc (K:PySem.W.Frag) (ta:TA):TI:=fun σ H R=>ta σ H fun vs H1=>∃a xs,vs=[.ref a]/\SqT K H1 a xs/\R (zoI K a) H1
theorem zn4 {X:Cx}{e:Expr}{ta:TA}{p pos tpos:Pos}{elts:List Expr}{kk:Nat}(hg:Gl X "enumerate") (hm:X.mg "enumerate" = none) (ha:PA X [e] ta) (hs:starEach [e] X.env=[(false,eval e X.env)]:=by rfl) :
  PI X (.Tuple elts kk tpos) (.Call (.Name "enumerate" p) [e] [] pos) (zqc X.K ta):=by
 intro pins s σ H R I h;refine Call_ (zd2 I hg hm boot_enumerate (PyProof.Rows.callWith_type1 (thn (ha pos pins s σ H _ I h) fun us s1 ⟨vs,H1,I1,r1,q1⟩=>?_) hs rfl));obtain⟨a,xs,ex,hq,q⟩:=q1;subst ex;cases r1 with
 |cons r rr =>
  cases rr;cases r;obtain⟨its,rv,p',hz⟩:=I1.tuple hq;refine zl9 (show s1.heap.IsTuple a its.toArray from p') fun h' he hit hsz hk=>wpAny_pyIter_enum he ?_;have I2:Inv X pins σ H1 { s1 with heap:=h' }:=I1.kept (t':=s1.toks) hk;refine⟨s1.heap.objs.size+1,[s1.heap.objs.size+1,s1.heap.objs.size],_,_,H1,rfl,I2,zmc a (s1.heap.objs.size+1) s1.heap.objs.size,⟨⟨.none,he⟩,hit,Nat.succ_ne_self _⟩,fun b hb=>?_,q⟩;have e':b=s1.heap.objs.size+1\/b=s1.heap.objs.size:=by simpa using hb
  have hle:s1.heap.objs.size<=b:=by
   rcases e' with z|z
   ·rw[z];exact Nat.le_add_right _ _
   ·rw[z];exact Nat.le_refl _
  exact I1.fpOk hle (I1.hok.fresh hle)
def zru (K:PySem.W.Frag):R2:=fun x y H Q=>∃p q xs,x=.ref p/\y=.ref q/\SqL K H p xs/\SqL K H q []/\Q (.bl (!xs.isEmpty)) H
theorem zjI {X:Cx}(hu:X.A.units<cLine):OpR X (compareOp .NotEq) (zru X.K):=by
 intro pins s σ H x y v u Q I rx ry h;obtain⟨p,q,xs,rfl,rfl,hp,hq,k⟩:=h;cases rx;cases ry;obtain⟨its,r1,p1,_⟩:=I.list hp;obtain⟨its2,r2,p2,_⟩:=I.list hq;cases r2;have l1:=r1.length;have fin:∀b:Bool,b=!xs.isEmpty->EP X pins σ Q (.bool b) s:=fun b e=>⟨.bl b,H,I,rfl,by rw[e];exact k⟩
 cases xs with
 |nil =>
  cases r1;exact(SeqAt.RcNeAt.lists (e:=fun _=>true) p1.isList p2.isList rfl hu (fun j h1 _=>absurd h1 (by simp)) X.prog X.w X.xe _ (fin _ rfl):wpAny (model X.prog X.w) X.A (compareOp .NotEq (.ref p) (.ref q)) _ X.xe s)
 |cons x xs =>
  exact(SeqAt.RcNeAt.lists_lengths p1.isList p2.isList (by simp[<-l1]) hu X.prog X.w X.xe _ (fin _ rfl):wpAny (model X.prog X.w) X.A (compareOp .NotEq (.ref p) (.ref q)) _ X.xe s)
theorem Room.mark {cm:Bool}{k:Nat}{A:Around}{h:Option Value}(r:Room cm k A):Room false k (A.mark h):=⟨(fun z=>nomatch z),r.dp,r.un⟩
theorem zfo {X:Cx}{K:PySem.W.Frag}{e:Expr}{f:Str}{pos:Pos}{ta:TE}(hK:X.K=K) (he:PE X e ta) (hb:attributeBase e f X.env (eval e X.env)=eval e X.env):PE X (.Attribute e f pos) (zp0 K ta f):=by
 subst hK;exact zpa he hb
theorem zhT {X:Cx}{K:PySem.W.Frag}{W:WX}{e c:Expr}{te tc:TE}{pos:Pos}{b:Addr}(hK:X.K=K) (tk:Takes X W) (hh:X.A.handled=some (.ref b)) (he:PE X e te) (hcs:PE X c tc):PS X (.Raise (some e) (some c) pos) (zmI K W b te tc):=by
 subst hK;exact zmX tk hh he hcs
open PySem.W (Codec OpenSpec) in
theorem walk_specX {cm:Bool}{r:OpenSpec}{k:Nat}{q:Program}{loose:List Str}{XP:(Str->Option Value)->Heap->Prop}{YP:World->Heap->Prop}{d:DefRec}{K:Params->PySem.W.Frag}{ps:List Str}{sp:PySem.W.Frag->Sp}
  (hwell:r.wellSaid=true) (hdf:d.params.defaults=[]) (hlen:r.args.length=ps.length) (hr:Room cm k callerA) (hY:∀(w:World) (h:Heap),YP w h->(K w.params).In h)
  (F:∀(w:World) (mg:Str->Option Value) (fa:Addr) (h:Heap),YP w h->(K w.params).In h->h.Ns mainGlobals mg->mg d.name=some (.ref fa) ->
    ∃fd:FuncData,(∀(s:Shared) (us:List Value),us.length=ps.length->BindsTo s fd ⟨us,[]⟩ (ps.zip us))/\∀base:Heap,(K w.params).In base->base.Ns mainGlobals mg->FnOk r.prog w (K w.params) mg base (CXo r.prog w) cm k fa fd ps (sp (K w.params)))
  (hsp:∀(K:PySem.W.Frag) (H:Hp) (xs:List V) (a:Codec.denoteAll r.args),zkY H->Codec.withinAll r.args a=true->Codec.app r.args r.asked a=true->zc3 K H xs (Codec.encAll r.args a) ->
    sp K xs H (fun v H'=>Dw K H' v (r.ret.enc (Codec.app r.args r.f a))) fun _ _ _=>False):PySem.W.WalkOS q loose XP YP r d [] (fun f vs=>PySem.call f vs) :=
 zna (K:=K) (CX:=fun w=>CXo r.prog w) (sp:=fun w=>sp (K w.params)) hwell hdf hlen hr hY F (fun w H xs a h1 h2 h3 h4=>hsp (K w.params) H xs a h1 h2 h3 h4) fun _ _ _ _ _ ⟨_,_,_,_,_,_,_,_,_,_,_,q⟩=>q
end L2
end
namespace Wm
open Bd
def zR (s:UInt8):Bytes->List Bytes
 |[]=>[[]]
 |c::r=>if c=s then[]::zR s r else match zR s r with
  |[]=>[[c]]
  |x::l=>(c::x)::l
def stp (s:UInt8) (p:List Bytes×Bytes) (c:UInt8):List Bytes×Bytes:=if c=s then(p.1++[p.2],[]) else(p.1,p.2++[c])
def fl (s:UInt8) (t:Bytes):List Bytes×Bytes:=t.foldl (stp s) ([],[])
def zi0 (p:List Bytes×Bytes):List Bytes:=p.1++[p.2]
theorem zpq (s:UInt8) (t:Bytes) (c:UInt8):fl s (t++[c])=stp s (fl s t) c:=by
 unfold fl;rw[List.foldl_append];rfl
theorem zbq:∀t:Bytes,wordsOf t=zR 32 t
 |[]=>rfl
 |c::r=>by
  unfold wordsOf zR;rw[zbq r];rfl
theorem yh (s:UInt8):∀t:Bytes,∃x l,zR s t=x::l
 |[]=>⟨_,_,rfl⟩
 |c::r=>by
  obtain⟨x,l,e⟩:=yh s r;unfold zR;rw[e];by_cases h:c=s
  ·rw[if_pos h];exact⟨_,_,rfl⟩
  ·rw[if_neg h];exact⟨_,_,rfl⟩
theorem zeZ (s:UInt8):∀(t:Bytes) (i:List Bytes) (l x:Bytes) (r:List Bytes),zR s t=x::r->zi0 (t.foldl (stp s) (i,l))=i++(l++x)::r
 |[],i,l,x,r,h=>by
  cases h;simp[zi0]
 |c::t,i,l,x,r,h=>by
  obtain⟨y,q,e⟩:=yh s t;rw[List.foldl_cons];unfold zR at h;rw[e] at h;by_cases hc:c=s
  ·rw[if_pos hc] at h;obtain⟨h1,h2⟩:=List.cons.inj h;subst h1 h2;rw[show stp s (i,l) c=(i++[l],[]) from if_pos hc,zeZ s t _ _ y q e];simp
  ·rw[if_neg hc] at h;obtain⟨h1,h2⟩:=List.cons.inj h;subst h1 h2;rw[show stp s (i,l) c=(i,l++[c]) from if_neg hc,zeZ s t _ _ y q e];simp
theorem zfy (s:UInt8) (t:Bytes):zi0 (fl s t)=zR s t:=by
 obtain⟨x,l,e⟩:=yh s t;unfold fl;rw[zeZ s t [] [] x l e,e];rfl
theorem zkG:∀t:Bytes,zR 10 t=(linesOf t).1++[(linesOf t).2]
 |[]=>rfl
 |c::r=>by
  have ih:=zkG r;unfold zR linesOf;by_cases h:c=10
  ·simp only[if_pos h];rw[ih];rfl
  ·simp only[if_neg h];rw[ih];cases e:(linesOf r).1 with
   |nil=>rfl
   |cons x l=>rfl
theorem zou (t:Bytes):fl 10 t=linesOf t:=by
 have h:=zfy 10 t;rw[zkG] at h;unfold zi0 at h;have:=List.append_inj' h rfl;exact Prod.ext this.1 (by simpa using this.2)
theorem znM:∀d:Nat,d<10->UInt8.ofNat (Nat.digitChar d).toNat=UInt8.ofNat (48+d):=by decide
theorem zgd {n:Nat}(h:n<10):number n=[UInt8.ofNat (48+n)]:=by
 unfold number ascii;show((String.ofList (Nat.toDigits 10 n)).toList.map _)=_;rw[String.toList_ofList,Nat.toDigits_of_lt_base h];show[UInt8.ofNat (Nat.digitChar n).toNat]=_;rw[znM n h]
theorem ziJ {n:Nat}(h:10<=n):number n=number (n / 10)++[UInt8.ofNat (48+n % 10)]:=by
 unfold number ascii;show((String.ofList (Nat.toDigits 10 n)).toList.map _)=((String.ofList (Nat.toDigits 10 (n / 10))).toList.map _)++_;rw[String.toList_ofList,String.toList_ofList,Nat.toDigits_of_base_le (by decide) h,List.map_append];show _++[UInt8.ofNat (Nat.digitChar (n % 10)).toNat]=_;rw[znM (n % 10) (Nat.mod_lt _ (by decide))]
theorem zcy (x:Bytes) (c:UInt8):valueOf (x++[c])=10*valueOf x+(c.toNat-48):=by
 unfold valueOf;rw[List.foldl_append];rfl
theorem zhQ {c:UInt8}(h:isDigit c=true):UInt8.ofNat (48+(c.toNat-48))=c/\c.toNat-48<10:=by
 unfold isDigit at h;simp only[Bool.and_eq_true,decide_eq_true_eq] at h;refine⟨?_,by omega⟩;rw[show 48+(c.toNat-48)=c.toNat by omega];exact UInt8.ofNat_toNat
def zb3 (x:Bytes):Bool:=x.headD 0 == 48&&decide (1<x.length)
theorem zkx:∀(n:Nat),10<=n->(number n).headD 0≠48/\number n≠[]/\1<(number n).length:=by
 intro n
 induction n using Nat.strongRecOn with
 |_ n ih =>
  intro h;rw[ziJ h];by_cases h2:10<=n / 10
  ·obtain⟨a,b,c⟩:=ih (n / 10) (by omega) h2;cases e:number (n / 10) with
   |nil=>exact absurd e b
   |cons y l =>
    rw[e] at a;refine⟨a,by simp,?_⟩;simp
  ·rw[zgd (by omega)];refine⟨?_,by simp,by simp⟩;have hn:n / 10<10:=by omega
   have h1:1<=n / 10:=by omega
   have q:∀d:Nat,d<10->1<=d->UInt8.ofNat (48+d)≠48:=by decide
   exact q _ hn h1
theorem znh:∀(x:Bytes),x≠[]->x.all isDigit=true->x.headD 0≠48->1<=valueOf x:=by
 intro x
 suffices h:∀(y:Bytes) (a:Nat),1<=a->1<=y.foldl (fun(n:Nat) (c:UInt8)=>10*n+(c.toNat-48)) a by
  intro hx hd hh;cases x with
  |nil=>exact absurd rfl hx
  |cons c r =>
   unfold valueOf;rw[List.foldl_cons];refine h r _ ?_;simp only[List.all_cons,Bool.and_eq_true] at hd;obtain⟨e,_⟩:=zhQ hd.1;have hc:isDigit c=true:=hd.1;unfold isDigit at hc;simp only[Bool.and_eq_true,decide_eq_true_eq] at hc;have:c.toNat≠48:=fun z=>hh (by
    show c=48;exact UInt8.toNat_inj.mp z)
   omega
 intro y
 induction y with
 |nil=>intro a h;exact h
 |cons c r ih =>
  intro a h;rw[List.foldl_cons];exact ih _ (by omega)
theorem zfF:∀(n:Nat) (x:Bytes),x.length=n->x≠[]->x.all isDigit=true->zb3 x=false->number (valueOf x)=x
 |0,x,hl,hx,_,_=>absurd (List.length_eq_zero_iff.mp hl) hx
 |n+1,x,hl,hx,hd,hn=>by
  have e:x=x.dropLast++[x.getLast hx]:=(List.dropLast_concat_getLast hx).symm;generalize x.dropLast=y at e;generalize x.getLast hx=c at e;subst e;simp only[List.all_append,List.all_cons,List.all_nil,Bool.and_true,Bool.and_eq_true] at hd;obtain⟨e2,h2⟩:=zhQ hd.2;rw[zcy];cases y with
  |nil =>
   show number (10*0+(c.toNat-48))=[c];rw[Nat.mul_zero,Nat.zero_add,zgd h2,e2]
  |cons d r =>
   have hh:(d::r).headD 0≠48:=by
    intro z;unfold zb3 at hn;have z':d=48:=z;subst z';simp at hn
   have p:=znh (d::r) (by simp) hd.1 hh;have nn:zb3 (d::r)=false:=by
    unfold zb3;rw[beq_eq_false_iff_ne.mpr hh];rfl
   have ih:=zfF n (d::r) (by simpa using hl) (by simp) hd.1 nn;rw[ziJ (by omega),show(10*valueOf (d::r)+(c.toNat-48)) / 10=valueOf (d::r) by omega,show(10*valueOf (d::r)+(c.toNat-48)) % 10=c.toNat-48 by omega,ih,e2]
def zfg (x:Bytes):Bool:=decide (1<=x.length)&&(decide (x.length<=5)&&(x.all isDigit&&!zb3 x))
theorem zix (x:Bytes):readNumber x=if zfg x=true then some (valueOf x) else none:=by
 unfold readNumber;by_cases h:zfg x=true
 ·rw[if_pos h];unfold zfg at h;simp only[Bool.and_eq_true,decide_eq_true_eq,Bool.not_eq_true'] at h;obtain⟨h1,h2,h3,h4⟩:=h;have hx:x≠[]:=fun z=>by rw[z] at h1;simp at h1
  rw[if_pos ⟨hx,h2,h3,zfF x.length x rfl hx h3 h4⟩]
 ·rw[if_neg h];refine if_neg fun⟨a,b,c,d⟩=>h ?_;unfold zfg;have l1:1<=x.length:=by
   cases x with
   |nil=>exact absurd rfl a
   |cons _ _=>simp
  simp only[Bool.and_eq_true,decide_eq_true_eq,Bool.not_eq_true'];refine⟨l1,b,c,?_⟩;cases hn:zb3 x with
  |false=>rfl
  |true =>
   exfalso;unfold zb3 at hn;simp only[Bool.and_eq_true,decide_eq_true_eq,beq_iff_eq] at hn;by_cases h10:10<=valueOf x
   ·have z:=(zkx _ h10).1;rw[d] at z;exact z hn.1
   ·rw[zgd (by omega)] at d;rw[<-d] at hn;simp at hn
theorem zls:∀(x:Bytes),x.length<=5->x.all isDigit=true->valueOf x<100000:=by
 have h:∀(n:Nat) (x:Bytes),x.length=n->x.all isDigit=true->valueOf x<10 ^ n:=by
  intro n
  induction n with
  |zero =>
   intro x hl _;rw[List.length_eq_zero_iff.mp hl];decide
  |succ n ih =>
   intro x hl hd;have hx:x≠[]:=fun z=>by rw[z] at hl;cases hl
   have e:x=x.dropLast++[x.getLast hx]:=(List.dropLast_concat_getLast hx).symm;generalize x.dropLast=y at e;generalize x.getLast hx=c at e;subst e;simp only[List.all_append,List.all_cons,List.all_nil,Bool.and_true,Bool.and_eq_true] at hd;obtain⟨_,h2⟩:=zhQ hd.2;have z:=ih y (by simpa using hl) hd.1;rw[zcy,Nat.pow_succ];omega
 intro x hl hd;exact Nat.lt_of_lt_of_le (h x.length x rfl hd) (Nat.pow_le_pow_right (by decide) hl)
def zgv (s:UInt8):List Bytes->Bytes
 |[]=>[]
 |[x]=>x
 |x::y::l=>x++s::zgv s (y::l)
theorem zcE (s:UInt8):∀t:Bytes,zgv s (zR s t)=t
 |[]=>rfl
 |c::r=>by
  have ih:=zcE s r;obtain⟨x,l,e⟩:=yh s r;unfold zR;rw[e] at ih ⊢;by_cases h:c=s
  ·rw[if_pos h];show[]++s::zgv s (x::l)=c::r;rw[ih,h];rfl
  ·rw[if_neg h];cases l with
   |nil =>
    have ih':x=r:=ih;show c::x=c::r;rw[ih']
   |cons y l =>
    show(c::x)++s::zgv s (y::l)=c::r;have ih':x++s::zgv s (y::l)=r:=ih;rw[<-ih'];rfl
theorem zfu {s:UInt8}:∀{w:Bytes}(r:Bytes),(∀c∈w,c≠s)->zR s (w++s::r)=w::zR s r
 |[],r,_=>by
  show zR s (s::r)=[]::zR s r;rw[zR,if_pos rfl]
 |c::w,r,h=>by
  show zR s (c::(w++s::r))=_;rw[zR,if_neg (h c (by simp)),zfu (w:=w) r fun d hd=>h d (by simp[hd])]
def zz (word:Bytes) (line:Bytes):Option (List Bytes):=match zR 32 line with
 |w::r=>if w=word then some r else none
 |[]=>none
theorem behind_iff {w line x:Bytes}:behind w line=some x↔line=w++32::x:=by
 unfold behind;constructor
 ·intro h;by_cases e:line.take (w.length+1)=w++[32]
  ·rw[if_pos e] at h;have h':=Option.some.inj h;rw[<-List.take_append_drop (w.length+1) line,e,h'];simp
  ·rw[if_neg e] at h;cases h
 ·intro h;subst h;rw[if_pos]
  ·congr 1;rw[show w++32::x=(w++[32])++x by simp,List.drop_left' (by simp)]
  ·rw[show w++32::x=(w++[32])++x by simp,List.take_left' (by simp)]
theorem zny (word:String) (ok:UInt8->Bool) (line:Bytes) (hw:∀c∈ascii word,c≠32) (h32:ok 32=false) :
  formed word ok line=match zz (ascii word) line with
   |some [x]=>if x≠[]/\x.all ok=true then some x else none
   |_=>none:=by
 unfold formed;cases hb:behind (ascii word) line with
 |some rest =>
  have e:=behind_iff.mp hb;have hs:=zfu (s:=32) rest hw;rw[<-e] at hs;unfold zz;rw[hs];dsimp only;rw[if_pos rfl,Option.bind_some];obtain⟨x,l,ex⟩:=yh 32 rest;have hj:=zcE 32 rest;rw[ex] at hj ⊢;cases l with
  |nil =>
   have hj':x=rest:=hj;rw[hj']
  |cons y l =>
   have hj':x++32::zgv 32 (y::l)=rest:=hj;show(if rest≠[]/\rest.all ok=true then some rest else none)=none;refine if_neg fun⟨_,z⟩=>?_;rw[<-hj'] at z;simp[h32] at z
 |none =>
  rw[Option.bind_none];unfold zz;obtain⟨x,l,ex⟩:=yh 32 line;have hj:=zcE 32 line;rw[ex] at hj ⊢;dsimp only;by_cases q:x=ascii word
  ·rw[if_pos q];cases l with
   |nil=>rfl
   |cons y l =>
    exfalso;have hj':x++32::zgv 32 (y::l)=line:=hj;rw[q] at hj';rw[behind_iff.mpr hj'.symm] at hb;cases hb
  ·rw[if_neg q]
theorem zfI (word:String) (n:Nat) (line:Bytes):numbersIn word n line=(zz (ascii word) line).bind fun r=>if r.length=n then r.mapM readNumber else none:=by
 unfold numbersIn zz;rw[zbq];obtain⟨x,l,ex⟩:=yh 32 line;rw[ex];dsimp only;by_cases q:x=ascii word
 ·rw[if_pos q,Option.bind_some];by_cases z:l.length=n
  ·rw[if_pos ⟨q,z⟩,if_pos z]
  ·rw[if_neg fun h=>z h.2,if_neg z]
 ·rw[if_neg fun h=>q h.1,if_neg q];rfl
def zbA (x:Bytes):Option Nat:=if x=ascii "free" then some 0 else if x=ascii "side" then some 1 else if x=ascii "end" then some 2 else none
theorem znR (word:String) (line:Bytes):endIn word line=match zz (ascii word) line with
  |some [x]=>zbA x
  |_=>none:=by
 unfold endIn zz;rw[zbq];obtain⟨x,l,ex⟩:=yh 32 line;rw[ex];cases l with
 |nil =>
  dsimp only;by_cases q:x=ascii word
  ·rw[if_pos q]
  ·rw[if_neg q]
 |cons y l =>
  cases l with
  |nil =>
   dsimp only;by_cases q:x=ascii word
   ·rw[if_pos q,if_pos q];rfl
   ·rw[if_neg q,if_neg q]
  |cons z l =>
   dsimp only;by_cases q:x=ascii word
   ·rw[if_pos q]
   ·rw[if_neg q]
inductive HV where
 |nm (b:Bytes)
 |num (n:Nat)
 deriving DecidableEq
def zcl (x:Bytes):Except Nat Bytes:=if x=[]\/x.all isSmall=false then .error 1 else if 15<x.length then .error 2 else .ok x
def Zs (x:Bytes) (most:Nat):Except Nat Nat:=match readNumber x with
 |none=>.error 1
 |some n=>if n<1\/most<n then .error 2 else .ok n
def zeK (i:Nat):String:=(["wall", "long", "high", "left", "right", "reveal"]:List String).getD i ""
def Zl (i:Nat) (x:Bytes):Except Nat HV :=
 if i=0 then(zcl x).map .nm else if i=1 then(Zs x 32).map .num else if i=2 then(Zs x 8).map .num else match zbA x with
  |some e=>.ok (.num e)
  |none=>.error 1
def yG (i:Nat) (line:Bytes):Except Nat HV:=match zz (ascii (zeK i)) line with
 |some [x]=>Zl i x
 |_=>.error 1
def ZA (line:Bytes) (long high:Nat) (before:List Opening):Except Nat Opening:=match (zz (ascii "open") line).bind fun r=>r.mapM readNumber with
 |some [a,b,c,d] =>
  let o:Opening:=⟨a,b,c,d⟩
  if o.within long high=false then .error 2
  else if (before.getLast?.any fun(p:Opening)=>!p.before o)=true then .error 3
  else if (before.any fun(p:Opening)=>p.meets o)=true then .error 4
  else if 8<=before.length then .error 5
  else .ok o
 |_=>.error 1
def numAt (h:List HV) (i:Nat):Nat:=match h[i]? with
 |some (.num n)=>n
 |_=>0
def Zy (h:List HV) (o:List Opening) (line:Bytes):Except Nat (List HV×List Opening) :=
 if h.length<6 then(match yG h.length line with
  |.error k=>.error k
  |.ok v=>.ok (h++[v],o))
 else match ZA line (numAt h 1) (numAt h 2) o with
  |.error k=>.error k
  |.ok p=>.ok (h,o++[p])
def nameAt (h:List HV):Bytes:=match h[0]? with
 |some (HV.nm b)=>b
 |_=>[]
def zck (h:List HV) (o:List Opening):Wall:=⟨nameAt h,numAt h 1,numAt h 2,numAt h 3,numAt h 4,numAt h 5,o⟩
def ZF (L:List Bytes) (i:Nat):Except Fault HV :=
 if i=0 then(match lineAt L 0 "wall" isSmall with
  |.error e=>.error e
  |.ok name=>if NAME<name.length then .error (0,2) else .ok (.nm name))
 else if i=1 then(sizeAt L 1 "long" LENGTH).map .num else if i=2 then(sizeAt L 2 "high" HIGH).map .num
 else if i=3 then(endAt L 3 "left").map .num else if i=4 then(endAt L 4 "right").map .num else(endAt L 5 "reveal").map .num
def zoc (z:List Bytes×Bytes):List Bytes:=z.1++(if z.2=[] then[] else[[]])
theorem ziH (L:List Bytes) (i:Nat) (word:String) (most:Nat):sizeAt L i word most=match L[i]? with
  |none=>.error (i,1)
  |some x=>match zz (ascii word) x with
   |some [y]=>(match Zs y most with
    |.error k=>.error (i,k)
    |.ok n=>.ok n)
   |_=>.error (i,1):=by
 unfold sizeAt;cases L[i]? with
 |none=>rfl
 |some x =>
  rw[Option.bind_some,zfI];dsimp only;cases zz (ascii word) x with
  |none=>rfl
  |some r =>
   rw[Option.bind_some]
   match r with
   |[]=>rfl
   |[y] =>
    rw[if_pos (show[y].length=1 from rfl)];unfold Zs;cases hy:readNumber y with
    |none=>simp[hy]
    |some n =>
     simp only[List.mapM_cons,List.mapM_nil,hy];show(if n<1\/most<n then Except.error (i,2) else Except.ok n)=_;by_cases q:n<1\/most<n
     ·rw[if_pos q,if_pos q]
     ·rw[if_neg q,if_neg q]
   |y::z::l =>
    dsimp only;rw[if_neg (by simp)]
theorem zhF (L:List Bytes) (i:Nat) (word:String):endAt L i word=match L[i]? with
  |none=>.error (i,1)
  |some x=>match zz (ascii word) x with
   |some [y]=>(match zbA y with
    |none=>.error (i,1)
    |some n=>.ok n)
   |_=>.error (i,1):=by
 unfold endAt;cases L[i]? with
 |none=>rfl
 |some x =>
  rw[Option.bind_some,znR];dsimp only;cases zz (ascii word) x with
  |none=>rfl
  |some r =>
   match r with
   |[]=>rfl
   |[y] =>
    dsimp only;cases zbA y <;> rfl
   |y::z::l=>rfl
def zdW (i:Nat) (r:Except Nat HV):Except Fault HV:=match r with
 |.error k=>.error (i,k)
 |.ok v=>.ok v
def zhX (L:List Bytes) (i:Nat) (word:String):Except Fault HV:=match lineAt L i word isSmall with
 |.error e=>.error e
 |.ok name=>if NAME<name.length then .error (i,2) else .ok (HV.nm name)
def zju (L:List Bytes) (i:Nat) (word:String):Except Fault HV:=match L[i]? with
 |none=>.error (i,1)
 |some x=>match zz (ascii word) x with
  |some [y]=>(match zcl y with
   |.error k=>.error (i,k)
   |.ok n=>.ok (HV.nm n))
  |_=>.error (i,1)
theorem znd (L:List Bytes) (i:Nat) (word:String) (hw:∀c∈ascii word,c≠32):zhX L i word=zju L i word:=by
 unfold zhX zju lineAt;cases L[i]? with
 |none=>rfl
 |some x =>
  rw[Option.bind_some,zny _ _ _ hw (by decide)];dsimp only;cases zz (ascii word) x with
  |none=>rfl
  |some r =>
   match r with
   |[]=>rfl
   |[y] =>
    dsimp only;unfold zcl;by_cases h1:y=[]\/y.all isSmall=false
    ·rw[if_pos h1,if_neg];rintro⟨a,b⟩;rcases h1 with h1|h1
     ·exact a h1
     ·rw[h1] at b;cases b
    ·rw[if_neg h1,if_pos]
     ·dsimp only;by_cases h2:NAME<y.length
      ·rw[if_pos h2,if_pos (show 15<y.length from h2)]
      ·rw[if_neg h2,if_neg (show ¬15<y.length from h2)]
     ·refine⟨fun z=>h1 (.inl z),?_⟩;cases q:y.all isSmall with
      |true=>rfl
      |false=>exact absurd (.inr q) h1
   |y::z::l=>rfl
theorem zgz (L:List Bytes) (i:Nat) (hi:i<6):ZF L i=match L[i]? with
  |none=>.error (i,1)
  |some x=>zdW i (yG i x):=by
 unfold ZF yG
 match i,hi with
 |0,_ =>
  rw[if_pos rfl];show zhX L 0 "wall" = _;rw[znd L 0 "wall" (by decide)];unfold zju;cases L[0]? with
  |none=>rfl
  |some x =>
   dsimp only;show _=zdW 0 (match zz (ascii "wall") x with
    |some [x]=>Zl 0 x
    |_=>.error 1)
   cases zz (ascii "wall") x with
   |none=>rfl
   |some r =>
    match r with
    |[]=>rfl
    |[y] =>
     dsimp only;unfold Zl;rw[if_pos rfl];cases zcl y <;> rfl
    |y::z::l=>rfl
 |1,_ =>
  rw[if_neg (by decide),if_pos rfl,ziH];cases L[1]? with
  |none=>rfl
  |some x =>
   dsimp only;show _=zdW 1 (match zz (ascii "long") x with
    |some [x]=>Zl 1 x
    |_=>.error 1)
   cases zz (ascii "long") x with
   |none=>rfl
   |some r =>
    match r with
    |[]=>rfl
    |[y] =>
     dsimp only;show Except.map HV.num (match Zs y 32 with
      |.error k=>(.error (1,k):Except Fault Nat)
      |.ok n=>.ok n)=zdW 1 ((Zs y 32).map HV.num)
     cases Zs y 32 <;> rfl
    |y::z::l=>rfl
 |2,_ =>
  rw[if_neg (by decide),if_neg (by decide),if_pos rfl,ziH];cases L[2]? with
  |none=>rfl
  |some x =>
   dsimp only;show _=zdW 2 (match zz (ascii "high") x with
    |some [x]=>Zl 2 x
    |_=>.error 1)
   cases zz (ascii "high") x with
   |none=>rfl
   |some r =>
    match r with
    |[]=>rfl
    |[y] =>
     dsimp only;show Except.map HV.num (match Zs y 8 with
      |.error k=>(.error (2,k):Except Fault Nat)
      |.ok n=>.ok n)=zdW 2 ((Zs y 8).map HV.num)
     cases Zs y 8 <;> rfl
    |y::z::l=>rfl
 |3,_ =>
  rw[if_neg (by decide),if_neg (by decide),if_neg (by decide),if_pos rfl,zhF];cases L[3]? with
  |none=>rfl
  |some x =>
   dsimp only;show _=zdW 3 (match zz (ascii "left") x with
    |some [x]=>Zl 3 x
    |_=>.error 1)
   cases zz (ascii "left") x with
   |none=>rfl
   |some r =>
    match r with
    |[]=>rfl
    |[y] =>
     dsimp only;show _=zdW 3 (match zbA y with
      |some e=>.ok (HV.num e)
      |none=>.error 1)
     cases zbA y <;> rfl
    |y::z::l=>rfl
 |4,_ =>
  rw[if_neg (by decide),if_neg (by decide),if_neg (by decide),if_neg (by decide),if_pos rfl,zhF];cases L[4]? with
  |none=>rfl
  |some x =>
   dsimp only;show _=zdW 4 (match zz (ascii "right") x with
    |some [x]=>Zl 4 x
    |_=>.error 1)
   cases zz (ascii "right") x with
   |none=>rfl
   |some r =>
    match r with
    |[]=>rfl
    |[y] =>
     dsimp only;show _=zdW 4 (match zbA y with
      |some e=>.ok (HV.num e)
      |none=>.error 1)
     cases zbA y <;> rfl
    |y::z::l=>rfl
 |5,_ =>
  rw[if_neg (by decide),if_neg (by decide),if_neg (by decide),if_neg (by decide),if_neg (by decide),zhF];cases L[5]? with
  |none=>rfl
  |some x =>
   dsimp only;show _=zdW 5 (match zz (ascii "reveal") x with
    |some [x]=>Zl 5 x
    |_=>.error 1)
   cases zz (ascii "reveal") x with
   |none=>rfl
   |some r =>
    match r with
    |[]=>rfl
    |[y] =>
     dsimp only;show _=zdW 5 (match zbA y with
      |some e=>.ok (HV.num e)
      |none=>.error 1)
     cases zbA y <;> rfl
    |y::z::l=>rfl
 |n+6,h=>omega
theorem zdB:∀{r:List Bytes}{ns:List Nat},r.mapM readNumber=some ns->ns.length=r.length
 |[],ns,h=>by
  simp at h;rw[h];rfl
 |x::r,ns,h=>by
  rw[List.mapM_cons] at h;cases e:readNumber x with
  |none=>rw[e] at h;cases h
  |some n =>
   cases e2:r.mapM readNumber with
   |none=>rw[e,e2] at h;cases h
   |some l =>
    rw[e,e2] at h;have h':n::l=ns:=Option.some.inj h;rw[<-h'];simp[zdB e2]
theorem zlr (L:List Bytes) (long high f i:Nat) (l:List Opening):opensAt L long high (f+1) i l=match L[i]? with
  |none=>.ok l
  |some x=>match ZA x long high l with
   |.error k=>.error (i,k)
   |.ok o=>opensAt L long high f (i+1) (l++[o]):=by
 rw[opensAt];cases L[i]? with
 |none=>rfl
 |some x =>
  dsimp only;unfold ZA;rw[zfI];cases zz (ascii "open") x with
  |none=>rfl
  |some r =>
   rw[Option.bind_some,Option.bind_some];by_cases hr:r.length=4
   ·rw[if_pos hr];cases hm:r.mapM readNumber with
    |none=>rfl
    |some ns =>
     have hl:=(zdB hm).trans hr
     match ns,hl with
     |[a,b,c,d],_ =>
      dsimp only;by_cases q1:Opening.within ⟨a,b,c,d⟩ long high=false
      ·rw[if_pos q1,if_pos q1]
      ·rw[if_neg q1,if_neg q1];by_cases q2:(l.getLast?.any fun(p:Opening)=>!p.before ⟨a,b,c,d⟩)=true
       ·rw[if_pos q2,if_pos q2]
       ·rw[if_neg q2,if_neg q2];by_cases q3:(l.any fun(p:Opening)=>p.meets ⟨a,b,c,d⟩)=true
        ·rw[if_pos q3,if_pos q3]
        ·rw[if_neg q3,if_neg q3];by_cases q4:OPENS<=l.length
         ·rw[if_pos q4,if_pos (show 8<=l.length from q4)]
         ·rw[if_neg q4,if_neg (show ¬8<=l.length from q4)]
   ·rw[if_neg hr];cases hm:r.mapM readNumber with
    |none=>rfl
    |some ns =>
     have hl:=zdB hm
     match ns,hl with
     |[],_=>rfl
     |[_],_=>rfl
     |[_,_],_=>rfl
     |[_,_,_],_=>rfl
     |[_,_,_,_],hl=>exact absurd hl.symm hr
     |_::_::_::_::_::_,_=>rfl
def fin (z:List Bytes×Bytes):Except Fault (List HV×List Opening)->Except Fault Wall
 |.error e=>.error e
 |.ok x=>if x.1.length<6\/z.2≠[] then .error (z.1.length,1) else .ok (zck x.1 x.2)
abbrev WS:=List HV×List Opening×List Bytes
def yJ (s:WS) (line:Bytes):Except Nat WS:=match Zy s.1 s.2.1 line with
 |.error k=>.error k
 |.ok z=>.ok (z.1,z.2,s.2.2++[line])
def zeo {S:Type}(step:S->Bytes->Except Nat S):List Bytes->Nat->S->Except Fault S
 |[],_,s=>.ok s
 |l::r,i,s=>match step s l with
  |.error k=>.error (i,k)
  |.ok s'=>zeo step r (i+1) s'
def Z7 {S:Type}(step:S->Bytes->Except Nat S) (fin:S->Bytes->Option Nat) (s0:S) (z:List Bytes×Bytes):Except Fault S:=match zeo step z.1 0 s0 with
 |.error e=>.error e
 |.ok s=>match fin s z.2 with
  |some k=>.error (z.1.length,k)
  |none=>.ok s
def zlM (wd line:Bytes):Option Bytes:=match zz wd line with
 |some [x]=>some x
 |_=>none
def zgi (x:Bytes) (least most:Nat):Except Nat Nat:=match readNumber x with
 |none=>.error 1
 |some n=>if n<least\/most<n then .error 2 else .ok n
end Wm
namespace L2
open PySem PySem.Spec PyProof.Rows
theorem zdO {K:PySem.W.Frag}{H:Hp}:∀ns:List Int,zgC K H (ns.map V.int) (ns.map PyData.int)
 |[]=>.nil
 |n::r=>.cons (.int n) (zdO r)
theorem zfV:∀ns ms:List Int,PyData.eqvAll (ns.map PyData.int) (ms.map PyData.int)=decide (ns=ms)
 |[],[]=>rfl
 |[],_::_=>rfl
 |_::_,[]=>rfl
 |n::r,m::q=>by
  have ih:=zfV r q;show(PyData.eqv (.int n) (.int m)&&PyData.eqvAll (r.map PyData.int) (q.map PyData.int))=_;rw[ih,Bool.eq_iff_iff];simp[PyData.eqv]
theorem zfY:∀ns:List Int,PyData.canLayAll0 (ns.map PyData.int)=true
 |[]=>by simp[PyData.canLayAll0]
 |n::r=>by simp[PyData.canLayAll0,PyData.canLay0,zfY r]
theorem zfT:∀ns:List Int,PyData.depthAll (ns.map PyData.int)<=1
 |[]=>by simp[PyData.depthAll]
 |n::r=>by
  have ih:=zfT r;simp[PyData.depthAll,PyData.depth];omega
abbrev Tups (H:Hp):List Addr->List (List Int)->Prop:=Paired fun a ms=>H a=some (.tup (ms.map V.int))
def zqQ (K:PySem.W.Frag) (neg:Bool):R2:=fun x y H Q=>∃(s p:Addr) (ns:List Int) (as:List Addr) (nss:List (List Int)),x=.ref s/\y=.ref p/\H s=some (.tup (ns.map V.int))/\SqL K H p (as.map V.ref)/\Tups H as nss/\Q (.bl (if neg then !nss.contains ns else nss.contains ns)) H
def eqT (H:Hp) (ns:List Int) (u:Value):Bool:=match u with
 |.ref a=>(match H a with
  |some (.tup ys)=>decide (ys=ns.map V.int)
  |_=>false)
 |_=>false
theorem zdu {ns ms:List Int}:ms.map V.int=ns.map V.int↔ms=ns:=List.map_inj_right fun _ _ e=>V.int.inj e
theorem zj9 {H:Hp}{ns:List Int}:∀{as:List Addr}{nss:List (List Int)}{us:List Value},Tups H as nss->Vals (as.map V.ref) us->us.any (eqT H ns)=nss.contains ns
 |_,_,_,.nil,r=>by
  cases r;rfl
 |_,_,_,.cons (a:=a) (b:=ms) h t,r=>by
  cases r with
  |cons r1 r2 =>
   cases r1;rw[List.any_cons,zj9 t r2,List.contains_cons];congr 1;show(match H a with
    |some (.tup ys)=>decide (ys=ns.map V.int)
    |_=>false)=_
   rw[h];show decide (ms.map V.int=ns.map V.int)=(ns == ms);rw[Bool.eq_iff_iff,decide_eq_true_eq,beq_iff_eq,zdu];exact eq_comm
section
variable {X:Cx}
theorem zqM {pins:List (Addr×Obj)}{σ:St}{H:Hp}{s:Shared}{a b:Addr}{ms ns:List Int}{A:Around}(I:Inv X pins σ H s) (ha:H a=some (.tup (ms.map V.int))) (hb:H b=some (.tup (ns.map V.int))) (hu:A.units+2<cLine):SeqAt.EqAt A s (.ref a) (.ref b) (decide (ms=ns)):=by
 obtain⟨as,r1⟩:=Dp.reads I (.tuple (ms.map PyData.int)) (.ref a) (.ref a) (.tup (.inl (.inl ha)) (zdO ms)) rfl;obtain⟨bs,r2⟩:=Dp.reads I (.tuple (ns.map PyData.int)) (.ref b) (.ref b) (.tup (.inl (.inl hb)) (zdO ns)) rfl;have l:∀l:List Int,PyData.canLay0 (.tuple (l.map PyData.int))=true:=fun l=>by
  have:=zfY l;simpa[PyData.canLay0] using this
 have d:PyData.depth (.tuple (ms.map PyData.int))<=2:=by
  have:=zfT ms;simp[PyData.depth];omega
 have e:=SeqAt.eqAt_reads _ _ A s _ _ as bs r1 r2 (l ms) (l ns) (Nat.lt_of_le_of_lt (Nat.add_le_add_left (Nat.le_trans (Nat.min_le_left _ _) d) _) hu);rw[show PyData.eqv (.tuple (ms.map PyData.int)) (.tuple (ns.map PyData.int))=decide (ms=ns) from zfV ms ns] at e;exact e
theorem zot {pins:List (Addr×Obj)}{σ:St}{H:Hp}{s:Shared}{b:Addr}{ns:List Int}{A:Around}(I:Inv X pins σ H s) (hb:H b=some (.tup (ns.map V.int))) (hu:A.units+2<cLine) :
  ∀{as:List Addr} {nss:List (List Int)} {us:List Value},Tups H as nss->Vals (as.map V.ref) us->∀u∈us,SeqAt.EqAt A s u (.ref b) (eqT H ns u)
 |_,_,_,.nil,r=>fun u hu=>by
  cases r;cases hu
 |_,_,_,.cons (a:=a) (b:=ms) h t,r=>fun u hu'=>by
  cases r with
  |cons r1 r2 =>
   cases r1;rcases List.mem_cons.mp hu' with rfl|m
   ·have e:eqT H ns (.ref a)=decide (ms=ns):=by
     show(match H a with
      |some (.tup ys)=>decide (ys=ns.map V.int)
      |_=>false)=_
     rw[h];exact decide_eq_decide.mpr zdu
    rw[e];exact zqM I h hb hu
   ·exact zot I hb hu t r2 u m
theorem zd1 {A:Around}(hu:A.units+64<cLine):A.in1.units+2<cLine:=by
 have:A.in1.units<=A.units+1:=by first|exact Nat.le_refl _|(simp[Around.in1,Around.units])
 omega
theorem zh9 (hu:X.A.units+64<cLine):OpR X (compareOp .In) (zqQ X.K false):=by
 intro pins s σ H x y v u Q I rx ry h;obtain⟨a,p,ns,as,nss,rfl,rfl,hs,hq,ht,q⟩:=h;cases rx;cases ry;obtain⟨its,r,pl,hz⟩:=I.list hq;refine SeqAt.in_listAt (eqT H ns) pl.isList (fun w hw=>zot I hs (zd1 hu) ht r w (by simpa using hw)) ⟨.bl _,H,I,rfl,?_⟩;rw[show its.toArray.any (eqT H ns)=its.any (eqT H ns) by simp,zj9 ht r];exact q
theorem zik (hu:X.A.units+64<cLine):OpR X (compareOp .NotIn) (zqQ X.K true):=by
 intro pins s σ H x y v u Q I rx ry h;obtain⟨a,p,ns,as,nss,rfl,rfl,hs,hq,ht,q⟩:=h;cases rx;cases ry;obtain⟨its,r,pl,hz⟩:=I.list hq;refine SeqAt.notIn_listAt (eqT H ns) pl.isList (fun w hw=>zot I hs (zd1 hu) ht r w (by simpa using hw)) ⟨.bl _,H,I,rfl,?_⟩;rw[show its.toArray.any (eqT H ns)=its.any (eqT H ns) by simp,zj9 ht r];exact q
end
end L2
namespace Wm
open Bd
theorem zly (n:Nat):List.range (n+1)=List.range n++[n]:=List.range_succ
theorem zlw (w:Wall) (x y:Nat):w.isOpen x y=(w.opens.map fun o=>o.has x y).any id:=by
 unfold Wall.isOpen;rw[List.any_map];rfl
end Wm
section
namespace HT
open PySem PyProof.Rows
def lexLe:List Int->List Int->Bool
 |[],[]=>true
 |[],_::_=>true
 |_::_,[]=>false
 |x::xs,y::ys=>if x=y then lexLe xs ys else decide (x<=y)
theorem lexLe_cons (x y:Int) (xs ys:List Int):lexLe (x::xs) (y::ys)=if x=y then lexLe xs ys else decide (x<=y):=rfl
theorem lexLe_nil_nil:lexLe [] []=true:=rfl
theorem zh8 (y:Int) (ys:List Int):lexLe [] (y::ys)=true:=rfl
theorem zhn (x:Int) (xs:List Int):lexLe (x::xs) []=false:=rfl
theorem zoS (A:Around) (s:Shared) (a:Int) (t:Tok) (c:Int) (u:Tok) (prog:Program) (w:World) (E:Value->Shared->Prop) (Q:Value->Shared->Prop) (h:Q (.bool (decide (a<=c))) s) :
  wpAny (model prog w) A (richCompare .LtE (.int a t) (.int c u)) Q E s :=
 (PyProof.Rows.le_int h:wpAny (model prog w) A (compareOp .LtE (.int a t) (.int c u)) Q E s)
section
open PySem.SeqAt
open PySem.AutoSeq1 (wpAny_loadPart')
open PySem.MeetsSeq PySem.MeetsSeq2 PySem.MeetsSeq3
theorem zih (l b:Addr) (items items2:Array Value) (n n2:Nat) (dd dd2:Option Addr) (sl sl2:Array (Option Value)) (ns ms:List Int) (hi:IntsAre items.toList ns) (hj:IntsAre items2.toList ms) :
  Meets (Builtin.«tuple.__le__» ⟨[.ref l,.ref b],[]⟩)
   (fun _ R s=>s.heap.get? l=some { cls:=.type "tuple",dict:=dd,data:=.seq items n,slots:=sl }/\s.heap.get? b=some { cls:=.type "tuple",dict:=dd2,data:=.seq items2 n2,slots:=sl2 } /\
     R (.ok (.ret (.bool (lexLe ns ms)))) s) :=
 .of_wp fun prog w A R s h=>by
  obtain⟨hp,g,d,tk,os⟩:=s;obtain⟨hl,hb,h⟩:=h;have f2:=AutoSeq1.sub_tuple_tuple;have z1:items.size=ns.length:=by rw[<-hi.length];simp
  have z2:items2.size=ms.length:=by rw[<-hj.length];simp
  wp_walk using wpAny_loadPart' hl,wpAny_loadPart' hb,wpAny_forIn_list _ (fun rest b s'=>b.1=none/\s'=⟨hp,g,d,tk,os⟩/\∃(vs ws:List Value) (ns' ms':List Int),rest=vs.zip ws /\
   IntsAre vs ns'/\IntsAre ws ms'/\ns'.length+items2.size=ms'.length+items.size/\R (.ok (.ret (.bool (lexLe ns' ms')))) ⟨hp,g,d,tk,os⟩) _
  case turn =>
   rintro⟨y,x⟩ rest b s' ⟨hb',rfl,vs,ws,ns',ms',hz,hvi,hwi,hlen,hR⟩;cases hvi with
   |nil=>rw[List.zip_nil_left] at hz;cases hz
   |cons a t hvi' =>
    cases hwi with
    |nil=>rw[List.zip_nil_right] at hz;cases hz
    |cons c u hwi' =>
     rw[List.zip_cons_cons] at hz;injection hz with hyx hrest;injection hyx with hy hx;subst hy hx;rw[lexLe_cons] at hR;simp only[List.length_cons] at hlen;obtain⟨e,he,hiff⟩:=zk4 A.in1 ⟨hp,g,d,tk,os⟩ a t c u;refine wpAny_bind (he prog w _ _ ?_);cases e with
     |true =>
      rw[if_pos (hiff.mp rfl)] at hR
      wp_walk
      exact⟨rfl,rfl,_,_,_,_,hrest,hvi',hwi',by omega,hR⟩
     |false =>
      rw[if_neg (fun q=>absurd (hiff.mpr q) Bool.false_ne_true)] at hR;have hri:=zoS A.in1 ⟨hp,g,d,tk,os⟩ a t c u prog w
      wp_walk using hri
      exact⟨_,rfl,by simpa using hR⟩
  case fin =>
   rintro⟨b1,b2⟩ s' ⟨hb',rfl,vs,ws,ns',ms',hz,hvi,hwi,hlen,hR⟩;simp only at hb';subst hb';have hv:lexLe ns' ms'=decide (items.size<=items2.size):=by
    cases hvi with
    |nil =>
     cases hwi with
     |nil =>
      simp only[List.length_nil] at hlen;rw[lexLe_nil_nil];exact(decide_eq_true (by omega)).symm
     |cons c u hw =>
      simp only[List.length_nil,List.length_cons] at hlen;rw[zh8];exact(decide_eq_true (by omega)).symm
    |cons a t hv =>
     cases hwi with
     |nil =>
      simp only[List.length_nil,List.length_cons] at hlen;rw[zhn];exact(decide_eq_false (by omega)).symm
     |cons c u hw =>
      rw[List.zip_cons_cons] at hz;cases hz
   rw[hv] at hR
   wp_walk
   exact⟨_,rfl,by simpa[Builtin.Tuple.tupleCompareSizes] using hR⟩
  case h =>
   exact⟨rfl,rfl,items.toList,items2.toList,ns,ms,rfl,hi,hj,by omega,h⟩
end
theorem le_tupInts {prog:Program}{w:World}{A:Around}{E:Value->Shared->Prop}{s:Shared}{l b:Addr}{items items2:Array Value}{ns ms:List Int}{Q:Value->Shared->Prop}(hl:IsTup s.heap l items) (hb:IsTup s.heap b items2) (hi:IntsAre items.toList ns) (hj:IntsAre items2.toList ms)
  (hu:A.units<cLine) (h:Q (.bool (lexLe ns ms)) s):wpAny (model prog w) A (compareOp .LtE (.ref l) (.ref b)) Q E s:=by
 obtain⟨⟨cls,dd,data,sl⟩,ho,hc,n,hd⟩:=id hl;obtain⟨⟨cls2,dd2,data2,sl2⟩,ho2,hc2,n2,hd2⟩:=id hb;simp only at hc hd hc2 hd2;subst hc hd hc2 hd2;exact richCompare_meets_room (op:=.LtE) ⟨_,ho,rfl⟩ ⟨_,ho2,rfl⟩ PySem.F.slot_tuple_le PySem.F.entry_tuple_le (PySem.F.args_tuple_le_2 _ _) (zih l b items items2 n n2 dd dd2 sl sl2 ns ms hi hj)
  ⟨ho,ho2,show Value.bool (lexLe ns ms)≠Value.notImplemented/\Q (.bool (lexLe ns ms)) s from⟨(fun x=>nomatch x),h⟩⟩ hu
end HT
namespace L2
open PySem PySem.Spec PyProof.Rows
open PySem.AutoSeq1 (wpAny_loadPart')
def zrk (K:PySem.W.Frag):R2:=fun x y H Q=>∃a b ns ms,x=.ref a/\y=.ref b/\SqT K H a (ns.map V.int)/\SqT K H b (ms.map V.int)/\Q (.bl (HT.lexLe ns ms)) H
theorem zqE {X:Cx}(hu:X.A.units<cLine):OpR X (compareOp .LtE) (zrk X.K):=by
 intro pins s σ H x y v u Q I rx ry h;obtain⟨a,b,ns,ms,rfl,rfl,ha,hb,q⟩:=h;cases rx;cases ry;obtain⟨its,r1,p1,_⟩:=I.tuple ha;obtain⟨its2,r2,p2,_⟩:=I.tuple hb;have i1:IntsAre its.toArray.toList ns:=zcM r1;have i2:IntsAre its2.toArray.toList ms:=zcM r2;exact HT.le_tupInts p1 p2 i1 i2 hu ⟨.bl (HT.lexLe ns ms),H,I,rfl,q⟩
def zrh (K:PySem.W.Frag):R2:=fun x y H Q=>∃p q xs,x=.ref p/\y=.ref q/\SqL K H p xs/\SqL K H q []/\Q (.bl xs.isEmpty) H
theorem zoV {X:Cx}(hu:X.A.units<cLine):OpR X (compareOp .Eq) (zrh X.K):=by
 intro pins s σ H x y v u Q I rx ry h;obtain⟨p,q,xs,rfl,rfl,hp,hq,k⟩:=h;cases rx;cases ry;obtain⟨its,r1,p1,_⟩:=I.list hp;obtain⟨its2,r2,p2,_⟩:=I.list hq;cases r2;have l1:=r1.length;have fin:∀b:Bool,b=xs.isEmpty->EP X pins σ Q (.bool b) s:=fun b e=>⟨.bl b,H,I,rfl,by rw[e];exact k⟩
 cases xs with
 |nil =>
  cases r1;exact(SeqAt.RcAt.lists (e:=fun _=>true) p1.isList p2.isList rfl hu (fun j h1 _=>absurd h1 (by simp)) X.prog X.w X.xe _ (fin _ rfl):wpAny (model X.prog X.w) X.A (compareOp .Eq (.ref p) (.ref q)) _ X.xe s)
 |cons x xs =>
  exact(SeqAt.RcAt.lists_lengths p1.isList p2.isList (by simp[<-l1]) hu X.prog X.w X.xe _ (fin _ rfl):wpAny (model X.prog X.w) X.A (compareOp .Eq (.ref p) (.ref q)) _ X.xe s)
abbrev Lsts (H:Hp):List Addr->List (List Int)->Prop:=Paired fun a ms=>H a=some (.lst (ms.map V.int))
def eqL (H:Hp) (ns:List Int) (u:Value):Bool:=match u with
 |.ref a=>(match H a with
  |some (.lst ys)=>decide (ys=ns.map V.int)
  |_=>false)
 |_=>false
theorem zjk {H:Hp}{ns ms:List Int}{a:Addr}(h:H a=some (.lst (ms.map V.int))):eqL H ns (.ref a)=decide (ms=ns):=by
 show(match H a with
  |some (.lst ys)=>decide (ys=ns.map V.int)
  |_=>false)=_
 rw[h];exact decide_eq_decide.mpr zdu
theorem zjA {H:Hp}{ns:List Int}:∀{as:List Addr}{nss:List (List Int)}{us:List Value},Lsts H as nss->Vals (as.map V.ref) us->us.any (eqL H ns)=nss.contains ns
 |_,_,_,.nil,r=>by
  cases r;rfl
 |_,_,_,.cons (a:=a) (b:=ms) h t,r=>by
  cases r with
  |cons r1 r2 =>
   cases r1;rw[List.any_cons,zjA t r2,List.contains_cons,zjk h];congr 1;rw[Bool.eq_iff_iff,decide_eq_true_eq,beq_iff_eq];exact eq_comm
section
variable {X:Cx}
theorem zqk {pins:List (Addr×Obj)}{σ:St}{H:Hp}{s:Shared}{a b:Addr}{ms ns:List Int}{A:Around}(I:Inv X pins σ H s) (ha:H a=some (.lst (ms.map V.int))) (hb:SqL X.K H b (ns.map V.int)) (hu:A.units+2<cLine):SeqAt.EqAt A s (.ref a) (.ref b) (decide (ms=ns)):=by
 obtain⟨as,r1⟩:=Dp.reads I (.list (ms.map PyData.int)) (.ref a) (.ref a) (.lst (SqL.of ha) (zdO ms)) rfl;obtain⟨bs,r2⟩:=Dp.reads I (.list (ns.map PyData.int)) (.ref b) (.ref b) (.lst hb (zdO ns)) rfl;have l:∀l:List Int,PyData.canLay0 (.list (l.map PyData.int))=true:=fun l=>by
  have:=zfY l;simpa[PyData.canLay0] using this
 have d:PyData.depth (.list (ms.map PyData.int))<=2:=by
  have:=zfT ms;simp[PyData.depth];omega
 have e:=SeqAt.eqAt_reads _ _ A s _ _ as bs r1 r2 (l ms) (l ns) (Nat.lt_of_le_of_lt (Nat.add_le_add_left (Nat.le_trans (Nat.min_le_left _ _) d) _) hu);rw[show PyData.eqv (.list (ms.map PyData.int)) (.list (ns.map PyData.int))=decide (ms=ns) from zfV ms ns] at e;exact e
theorem zmm {pins:List (Addr×Obj)}{σ:St}{H:Hp}{s:Shared}{b:Addr}{ns:List Int}{A:Around}(I:Inv X pins σ H s) (hb:SqL X.K H b (ns.map V.int)) (hu:A.units+2<cLine) :
  ∀{as:List Addr} {nss:List (List Int)} {us:List Value},Lsts H as nss->Vals (as.map V.ref) us->∀u∈us,SeqAt.EqAt A s u (.ref b) (eqL H ns u)
 |_,_,_,.nil,r=>fun u hu=>by
  cases r;cases hu
 |_,_,_,.cons (a:=a) (b:=ms) h t,r=>fun u hu'=>by
  cases r with
  |cons r1 r2 =>
   cases r1;rcases List.mem_cons.mp hu' with rfl|m
   ·rw[zjk h];exact zqk I h hb hu
   ·exact zmm I hb hu t r2 u m
def zrb (K:PySem.W.Frag) (neg:Bool):R2:=fun x y H Q=>∃(s p:Addr) (ns:List Int) (as:List Addr) (nss:List (List Int)),x=.ref s/\y=.ref p/\SqL K H s (ns.map V.int)/\SqL K H p (as.map V.ref)/\Lsts H as nss/\Q (.bl (if neg then !nss.contains ns else nss.contains ns)) H
theorem zlO (hu:X.A.units+64<cLine):OpR X (compareOp .In) (zrb X.K false):=by
 intro pins s σ H x y v u Q I rx ry h;obtain⟨a,p,ns,as,nss,rfl,rfl,hs,hq,ht,q⟩:=h;cases rx;cases ry;obtain⟨its,r,pl,hz⟩:=I.list hq;refine SeqAt.in_listAt (eqL H ns) pl.isList (fun w hw=>zmm I hs (zd1 hu) ht r w (by simpa using hw)) ⟨.bl _,H,I,rfl,?_⟩;rw[show its.toArray.any (eqL H ns)=its.any (eqL H ns) by simp,zjA ht r];exact q
theorem zeA (hu:X.A.units+64<cLine):OpR X (compareOp .NotIn) (zrb X.K true):=by
 intro pins s σ H x y v u Q I rx ry h;obtain⟨a,p,ns,as,nss,rfl,rfl,hs,hq,ht,q⟩:=h;cases rx;cases ry;obtain⟨its,r,pl,hz⟩:=I.list hq;refine SeqAt.notIn_listAt (eqL H ns) pl.isList (fun w hw=>zmm I hs (zd1 hu) ht r w (by simpa using hw)) ⟨.bl _,H,I,rfl,?_⟩;rw[show its.toArray.any (eqL H ns)=its.any (eqL H ns) by simp,zjA ht r];exact q
def zpk (K:PySem.W.Frag):V->List V->Hp->VK->Prop:=fun x xs H Q=>∃(p s:Addr) (ns:List Int) (as:List Addr) (nss:List (List Int)) (j:Nat),x=V.ref p/\xs=[.ref s]/\SqL K H s (ns.map V.int)/\SqL K H p (as.map V.ref)/\Lsts H as nss/\nss[j]?=some ns/\(∀m,m<j->nss[m]?≠some ns)/\Q (.int (j:Nat)) H
theorem ziW (hu:X.A.units+64<cLine):MtR X "list.index" (zpk X.K):=by
 intro pins s σ H x xs v us Q I rx rxs h;obtain⟨p,a,ns,as,nss,j,rfl,rfl,hs,hq,ht,hj,hno,q⟩:=h;cases rx;cases rxs with
 |cons ry rt =>
  rename_i uy ut;cases rt;cases ry;obtain⟨its,rv,⟨⟨cls,dd,data,sl⟩,n,ho,hc,hdn,hd⟩,hlen⟩:=I.list hq;simp only at hc hd;subst hc hd;have lab:as.length=nss.length:=Paired.length ht;have hvl:=rv.length;rw[List.length_map] at hvl hlen;have jl:=(List.getElem?_eq_some_iff.mp hj).1;have at_:∀m,(h:m<its.length)->∃b ms,its[m]=Value.ref b/\H b=some (.lst (ms.map V.int))/\nss[m]?=some ms:=fun m h=>by
   have hm:m<nss.length:=by omega
   have hma:m<as.length:=by omega
   have e1:(as.map V.ref)[m]?=some (.ref as[m]):=by rw[List.getElem?_map,List.getElem?_eq_getElem hma];rfl
   obtain⟨u,hu',ru⟩:=rv.get e1;obtain⟨_,e2⟩:=List.getElem?_eq_some_iff.mp hu';have e3:nss[m]?=some nss[m]:=List.getElem?_eq_getElem hm;have pr:∀{as:List Addr} {nss:List (List Int)} {i:Nat} {x:Addr},Lsts H as nss->as[i]?=some x->∃b,nss[i]?=some b/\H x=some (.lst (b.map V.int)):=fun{as nss i x} r=>by
    induction r generalizing i with
    |nil=>intro h;simp at h
    |cons h t ih =>
     cases i with
     |zero =>
      intro e;obtain rfl:=Option.some.inj e;exact⟨_,rfl,h⟩
     |succ i=>exact fun e=>ih (i:=i) e
   obtain⟨ms,e4,e5⟩:=pr ht (List.getElem?_eq_getElem hma);cases ru;exact⟨as[m],ms,e2,e5,e4⟩
  have hsl:=sizeLine_eq;have hj':j<its.toArray.size:=by simp;omega
  refine call_meets PySem.F.slot_list_index ⟨_,ho,rfl⟩ PySem.F.entry_list_index (PySem.F.args_list_index_2 _ _)
   (SeqAt.list_indexAt p its.toArray n dd sl (.ref a) (eqL H ns) j hj' (by omega) ?_ ?_) ⟨ho,fun u' hu'=>zmm I hs (zd1 hu) ht rv u' (by simpa using hu'),?_⟩
  ·obtain⟨b,ms,e1,e2,e3⟩:=at_ j (by omega);rw[show its.toArray[j]=Value.ref b by simpa using e1,zjk e2];rw[hj] at e3;exact decide_eq_true (Option.some.inj e3).symm
  ·intro m hm hmj;obtain⟨b,ms,e1,e2,e3⟩:=at_ m (by simpa using hm);rw[show its.toArray[m]=Value.ref b by simpa using e1,zjk e2];exact decide_eq_false fun z=>hno m hmj (by rw[e3,z])
  ·exact⟨.int (j:Nat),H,I.tok _,⟨_,rfl⟩,q⟩
end
end L2
end
section
set_option maxHeartbeats 1000000
namespace Wm
open Bd
abbrev SS:=List WS×List Corner
def zZ (r:WS):Wall:=zck r.1 r.2.1
def za9 (walls:List Wall) (l:List Corner) (line:Bytes):Except Nat Corner:=match cornerIn walls line with
 |none=>.error 8
 |some k =>
  if (l.getLast?.any fun(m:Corner)=>!m.before k)=true then .error 9
  else if (l.any fun(m:Corner)=>m.uses k.a k.ea||m.uses k.c k.ec)=true then .error 10
  else if cornersFit walls l k=false then .error 11
  else .ok k
def yS (s:SS) (line:Bytes):Except Nat SS:=match yJ ([],[],[]) line with
 |.error k=>.error k
 |.ok r=>if (s.1.any fun q=>nameAt q.1 == nameAt r.1)=true then .error 6 else if 4<=s.1.length then .error 7 else .ok (s.1++[r],s.2)
def yA (s:SS):Bool:=match s.1.getLast? with
 |none=>true
 |some r=>decide (r.1.length<6)
def ZB (s:SS) (line:Bytes):Except Nat SS:=match s.1.getLast? with
 |none=>.error 1
 |some r=>match yJ r line with
  |.error k=>.error k
  |.ok r'=>.ok (s.1.dropLast++[r'],s.2)
def yo (s:SS) (line:Bytes):Except Nat SS :=
 if s.1=[] then yS s line else if yA s=true then ZB s line
 else if s.2≠[]\/begins "corner" line=true then(match za9 (s.1.map zZ) s.2 line with
  |.error k=>.error k
  |.ok k=>.ok (s.1,s.2++[k]))
 else if begins "wall" line=true then yS s line else ZB s line
def zbz (s:SS) (rest:Bytes):Option Nat :=
 if yA s=true then some 1 else if rest≠[]/\(s.2≠[]\/begins "corner" rest=true) then some 8 else if rest≠[] then some 1 else none
def Zf (z:List Bytes×Bytes):List Bytes:=z.1++(if z.2=[] then[] else[z.2++[0]])
theorem zbV {z:List Bytes×Bytes}{i:Nat}(h:i<z.1.length):(Zf z)[i]?=some z.1[i]:=by
 unfold Zf;rw[List.getElem?_append_left h];exact List.getElem?_eq_getElem h
theorem ZE (z:List Bytes×Bytes):(Zf z)[z.1.length]?=if z.2=[] then none else some (z.2++[0]):=by
 unfold Zf;rw[List.getElem?_append_right (Nat.le_refl _),Nat.sub_self];by_cases h:z.2=[]
 ·rw[if_pos h,if_pos h];rfl
 ·rw[if_neg h,if_neg h];rfl
theorem zkg (z:List Bytes×Bytes):z.1.length<=(Zf z).length:=by
 unfold Zf;rw[List.length_append];omega
def zqp (z:List Bytes×Bytes):Except Fault SS->Except Fault Site
 |.error e=>.error e
 |.ok s=>match zbz s z.2 with
  |some k=>.error (z.1.length,k)
  |none=>.ok ⟨s.1.map zZ,s.2⟩
def PR (z:List Bytes×Bytes) (i:Nat) (s:SS):Except Fault Site:=zqp z (zeo yo (z.1.drop i) i s)
theorem zkj {z:List Bytes×Bytes}{i:Nat}{s:SS}(h:i<z.1.length):PR z i s=match yo s z.1[i] with
  |.error k=>.error (i,k)
  |.ok s'=>PR z (i+1) s':=by
 unfold PR;rw[List.drop_eq_getElem_cons h,zeo];cases yo s z.1[i] with
 |error k=>rfl
 |ok s'=>rfl
theorem zoB (z:List Bytes×Bytes) (s:SS):PR z z.1.length s=match zbz s z.2 with
  |some k=>.error (z.1.length,k)
  |none=>.ok ⟨s.1.map zZ,s.2⟩:=by
 unfold PR;rw[List.drop_length];rfl
theorem zeL:∀x:Bytes,∃i l,zR 32 x=i++[l]/\zR 32 (x++[0])=i++[l++[0]]
 |[]=>⟨[],[],rfl,rfl⟩
 |c::r=>by
  obtain⟨i,l,e1,e2⟩:=zeL r;by_cases h:c=32
  ·refine⟨[]::i,l,?_,?_⟩
   ·rw[zR,if_pos h,e1];rfl
   ·rw[List.cons_append,zR,if_pos h,e2];rfl
  ·cases i with
   |nil =>
    refine⟨[],c::l,?_,?_⟩
    ·rw[zR,if_neg h,e1];rfl
    ·rw[List.cons_append,zR,if_neg h,e2];rfl
   |cons y i =>
    refine⟨(c::y)::i,l,?_,?_⟩
    ·rw[zR,if_neg h,e1];rfl
    ·rw[List.cons_append,zR,if_neg h,e2];rfl
theorem zd4 {w:Bytes}{x:Bytes}(h:(0:UInt8)∉w):¬x++[0]=w:=fun e=>h (by rw[<-e];simp)
theorem zaP (w:String) (x:Bytes) (h:(0:UInt8)∉ascii w):begins w (x++[0])=begins w x:=by
 have key:∀y:Bytes,begins w y=true↔∃r,y=ascii w++32::r:=fun y=>by
  unfold begins;rw[Option.isSome_iff_exists];exact⟨fun⟨r,e⟩=>⟨r,behind_iff.mp e⟩,fun⟨r,e⟩=>⟨r,behind_iff.mpr e⟩⟩
 rw[Bool.eq_iff_iff,key,key];constructor
 ·rintro⟨r,e⟩;rcases List.eq_nil_or_concat r with rfl|⟨r',c,rfl⟩
  ·have q:(x++[0]).getLast?=(ascii w++[32]).getLast?:=by rw[e]
   rw[List.getLast?_concat,List.getLast?_concat] at q;exact absurd (Option.some.inj q) (by decide)
  ·rw[List.concat_eq_append] at e;have e':x++[0]=(ascii w++32::r')++[c]:=by rw[e];simp
   exact⟨r',(List.append_inj' e' rfl).1⟩
 ·rintro⟨r,e⟩;exact⟨r++[0],by rw[e];simp⟩
theorem zid (walls:List Wall) (x:Bytes):cornerIn walls (x++[0])=none:=by
 unfold cornerIn;rw[zbq];obtain⟨i,l,e1,e2⟩:=zeL x;rw[e2]
 match i with
 |[]=>rfl
 |[_]=>rfl
 |[_,_]=>rfl
 |[_,_,_]=>rfl
 |_::_::_::_::_::r=>cases r <;> rfl
 |[w,n,e,m] =>
  have s:sideIn (l++[0])=none:=by
   unfold sideIn;rw[if_neg (zd4 (by decide)),if_neg (zd4 (by decide))]
  show(if w=ascii "corner" then(match walls.findIdx? (fun(v:Wall)=>v.name == n),sideIn e,walls.findIdx? (fun(v:Wall)=>v.name == m),sideIn (l++[0]) with
   |some a,some ea,some c,some ec=>if a<c then some (⟨a,ea,c,ec⟩:Corner) else none
   |_,_,_,_=>none) else none)=none
  rw[s];by_cases hw:w=ascii "corner"
  ·rw[if_pos hw];cases walls.findIdx? (fun(v:Wall)=>v.name == n) <;> cases sideIn e <;> cases walls.findIdx? (fun(v:Wall)=>v.name == m) <;> rfl
  ·rw[if_neg hw]
theorem zgn (w x:Bytes):zz w (x++[0])=none\/zz w (x++[0])=some []\/∃i l,zz w (x++[0])=some (i++[l++[0]]):=by
 unfold zz;obtain⟨i,l,e1,e2⟩:=zeL x;rw[e2];cases i with
 |nil =>
  show(if (l++[0])=w then some [] else none)=none\/_;by_cases h:l++[0]=w
  ·exact .inr (.inl (by show(if (l++[0])=w then some [] else none)=_;rw[if_pos h]))
  ·exact .inl (if_neg h)
 |cons y i =>
  by_cases h:y=w
  ·exact .inr (.inr ⟨i,l,by show(if y=w then some (i++[l++[0]]) else none)=_;rw[if_pos h]⟩)
  ·exact .inl (by show(if y=w then some (i++[l++[0]]) else none)=_;rw[if_neg h])
theorem zdg (x:Bytes):readNumber (x++[0])=none:=by
 unfold readNumber;rw[if_neg];rintro⟨_,_,h,_⟩;rw[List.all_append,Bool.and_eq_true] at h;exact absurd h.2 (by decide)
theorem zhD (n:Nat) (hn:n<6) (x:Bytes):yG n (x++[0])=.error 1:=by
 unfold yG;rcases zgn (ascii (zeK n)) x with e|e|⟨i,l,e⟩
 ·rw[e]
 ·rw[e]
 ·rw[e]
  match i with
  |[] =>
   show Zl n (l++[0])=_;unfold Zl;have h1:zcl (l++[0])=.error 1:=by
    unfold zcl;rw[if_pos];refine .inr ?_;rw[List.all_append,Bool.and_eq_false_iff];exact .inr (by decide)
   have h2:∀m,Zs (l++[0]) m=.error 1:=fun m=>by
    unfold Zs;rw[zdg]
   have h3:zbA (l++[0])=none:=by
    unfold zbA;rw[if_neg (zd4 (by decide)),if_neg (zd4 (by decide)),if_neg (zd4 (by decide))]
   rw[h1,h2,h2,h3]
   match n,hn with
   |0,_=>rfl
   |1,_=>rfl
   |2,_=>rfl
   |n+3,_=>rfl
  |[_]=>rfl
  |_::_::_=>rfl
theorem zlY (x:Bytes) (long high:Nat) (os:List Opening):ZA (x++[0]) long high os=.error 1:=by
 unfold ZA;rcases zgn (ascii "open") x with e|e|⟨i,l,e⟩
 ·rw[e];rfl
 ·rw[e];rfl
 ·rw[e];have m:∀i:List Bytes,(i++[l++[0]]).mapM readNumber=none:=fun i=>by
   induction i with
   |nil =>
    show[l++[0]].mapM readNumber=none;rw[List.mapM_cons,zdg];rfl
   |cons y i ih =>
    rw[List.cons_append,List.mapM_cons,ih];cases readNumber y <;> rfl
  rw[Option.bind_some,m]
end Wm
end
section
set_option maxHeartbeats 1000000
namespace Wm
open Bd
def zav {α:Type}(j:Nat):Except Fault α->Except Fault α
 |.error e=>.error (j+e.1,e.2)
 |.ok x=>.ok x
theorem zkC (L:List Bytes) (j n:Nat) (w:String) (ok:UInt8->Bool):lineAt L (j+n) w ok=zav j (lineAt (L.drop j) n w ok):=by
 unfold lineAt;rw[List.getElem?_drop];cases (L[j+n]?).bind (formed w ok) <;> rfl
theorem zgu (L:List Bytes) (j n:Nat) (w:String) (m:Nat):sizeAt L (j+n) w m=zav j (sizeAt (L.drop j) n w m):=by
 unfold sizeAt;rw[List.getElem?_drop]
 match (L[j+n]?).bind (numbersIn w 1) with
 |none=>rfl
 |some []=>rfl
 |some [k] =>
  dsimp only;by_cases h:k<1\/m<k
  ·rw[if_pos h,if_pos h];rfl
  ·rw[if_neg h,if_neg h];rfl
 |some (_::_::_)=>rfl
theorem ze1 (L:List Bytes) (j n:Nat) (w:String):endAt L (j+n) w=zav j (endAt (L.drop j) n w):=by
 unfold endAt;rw[List.getElem?_drop];cases (L[j+n]?).bind (endIn w) <;> rfl
def zdI (L:List Bytes) (g j:Nat) (l:List Wall):Except Fault Site:=match wallsAt L g j l with
 |.error e=>.error e
 |.ok x=>match cornersAt L x.1 (L.length+1) x.2 [] with
  |.error e=>.error e
  |.ok c=>.ok ⟨x.1,c⟩
def zmA (L:List Bytes) (g f i:Nat) (pre:List Wall) (h:List HV) (os:List Opening):Except Fault Site:=match opensTo L (numAt h 1) (numAt h 2) f i os with
 |.error e=>.error e
 |.ok z=>zdI L g z.2 (pre++[zck h z.1])
def zbg (L:List Bytes) (g i:Nat) (pre:List Wall):Nat->List HV->Except Fault Site
 |0,h=>zmA L g (L.length+1) (i+6) pre h []
 |m+1,h=>match zav i (ZF (L.drop i) h.length) with
  |.error e=>.error e
  |.ok v=>zbg L g i pre m (h++[v])
def ziK (L:List Bytes) (g i:Nat) (pre:List Wall):Except Fault Site:=match wallAt L i pre with
 |.error e=>.error e
 |.ok z=>zdI L g z.2 (pre++[z.1])
theorem znW (L:List Bytes) (g i:Nat) (pre:List Wall):ziK L g i pre=match zav i (ZF (L.drop i) 0) with
  |.error e=>.error e
  |.ok v=>if (pre.any fun w=>w.name == nameAt [v])=true then .error (i,6) else if 4<=pre.length then .error (i,7) else zbg L g i pre 5 [v]:=by
 have s0:ZF (L.drop i) 0=(match lineAt (L.drop i) 0 "wall" isSmall with
  |.error e=>.error e
  |.ok name=>if NAME<name.length then .error (0,2) else .ok (.nm name)):=rfl
 have s1:ZF (L.drop i) 1=(sizeAt (L.drop i) 1 "long" LENGTH).map .num:=rfl;have s2:ZF (L.drop i) 2=(sizeAt (L.drop i) 2 "high" HIGH).map .num:=rfl;have s3:ZF (L.drop i) 3=(endAt (L.drop i) 3 "left").map .num:=rfl;have s4:ZF (L.drop i) 4=(endAt (L.drop i) 4 "right").map .num:=rfl;have s5:ZF (L.drop i) 5=(endAt (L.drop i) 5 "reveal").map .num:=rfl;unfold ziK wallAt;rw[show lineAt L i "wall" isSmall=zav i (lineAt (L.drop i) 0 "wall" isSmall) from zkC L i 0 "wall" isSmall,zgu L i 1,zgu L i 2,ze1 L i 3,ze1 L i 4,ze1 L i 5];rw[s0];cases lineAt (L.drop i) 0 "wall" isSmall with
 |error e=>rfl
 |ok name =>
  dsimp only[zav];by_cases hn:NAME<name.length
  ·rw[if_pos hn,if_pos hn];rfl
  ·rw[if_neg hn,if_neg hn];dsimp only;have en:nameAt [HV.nm name]=name:=rfl;rw[en];by_cases h6:(pre.any fun(w:Wall)=>w.name == name)=true
   ·rw[if_pos h6,if_pos h6]
   ·rw[if_neg h6,if_neg h6];by_cases h7:4<=pre.length
    ·rw[if_pos h7,if_pos (show WALLS<=pre.length from h7)]
    ·rw[if_neg h7,if_neg (show ¬WALLS<=pre.length from h7)];simp only[zbg,List.length_nil,List.nil_append,List.length_append,List.length_cons,List.cons_append,Nat.zero_add,Nat.reduceAdd,s1,s2,s3,s4,s5];cases sizeAt (L.drop i) 1 "long" LENGTH with
     |error e=>rfl
     |ok long =>
      dsimp only[Except.map,zav];cases sizeAt (L.drop i) 2 "high" HIGH with
      |error e=>rfl
      |ok high =>
       dsimp only;cases endAt (L.drop i) 3 "left" with
       |error e=>rfl
       |ok left =>
        dsimp only;cases endAt (L.drop i) 4 "right" with
        |error e=>rfl
        |ok right =>
         dsimp only;cases endAt (L.drop i) 5 "reveal" with
         |error e=>rfl
         |ok reveal =>
          dsimp only;unfold zmA;show _=(match opensTo L long high (L.length+1) (i+6) [] with
           |.error e=>(.error e:Except Fault Site)
           |.ok z=>zdI L g z.2 (pre++[zck [HV.nm name,HV.num long,HV.num high,HV.num left,HV.num right,HV.num reveal] z.1]))
          cases opensTo L long high (L.length+1) (i+6) [] with
          |error e=>rfl
          |ok z=>rfl
theorem zaQ (pre:List WS) (r:WS) (cs:List Corner):yA (pre++[r],cs)=decide (r.1.length<6):=by
 unfold yA;rw[List.getLast?_concat]
theorem yZ (pre:List WS) (r:WS) (cs:List Corner) (x:Bytes):ZB (pre++[r],cs) x=match yJ r x with
  |.error k=>.error k
  |.ok r'=>.ok (pre++[r'],cs):=by
 unfold ZB;rw[List.getLast?_concat];dsimp only;cases yJ r x with
 |error k=>rfl
 |ok r' =>
  dsimp only;rw[List.dropLast_concat]
theorem zgZ {z:List Bytes×Bytes}{s:SS}{k:Nat}(h:zbz s z.2=some k):PR z z.1.length s=.error (z.1.length,k):=by
 rw[zoB,h]
theorem zhz {s:SS}{rest:Bytes}(hh:yA s=false):zbz s rest=if rest≠[]/\(s.2≠[]\/begins "corner" rest=true) then some 8 else if rest≠[] then some 1 else none:=by
 unfold zbz;rw[if_neg (by rw[hh];decide)]
theorem zks (z:List Bytes×Bytes) (pre:List WS) (r:WS) (h6:¬r.1.length<6):∀(f i:Nat) (cs:List Corner),i<=z.1.length->(Zf z).length+1<=f+i ->
  (cs≠[]\/∀x,(Zf z)[i]?=some x->begins "corner" x=true) ->
  (match cornersAt (Zf z) ((pre++[r]).map zZ) f i cs with
  |.error e=>.error e
  |.ok l=>.ok ⟨(pre++[r]).map zZ,l⟩)=PR z i (pre++[r],cs):=by
 intro f
 induction f with
 |zero =>
  intro i cs hi hf _;have:=zkg z;omega
 |succ f ih =>
  intro i cs hi hf hc;rw[cornersAt];have hh:yA (pre++[r],cs)=false:=by rw[zaQ];exact decide_eq_false h6
  by_cases hl:i<z.1.length
  ·rw[zbV hl,zkj hl];have st:yo (pre++[r],cs) z.1[i]=match za9 ((pre++[r]).map zZ) cs z.1[i] with
     |.error k=>.error k
     |.ok k=>.ok (pre++[r],cs++[k]):=by
    unfold yo;rw[if_neg (by simp),if_neg (by rw[hh];decide),if_pos (hc.imp_right fun q=>q _ (zbV hl))] <;> rfl
   rw[st];unfold za9;dsimp only;cases cornerIn ((pre++[r]).map zZ) z.1[i] with
   |none=>rfl
   |some k =>
    dsimp only;by_cases q1:(cs.getLast?.any fun(m:Corner)=>!m.before k)=true
    ·rw[if_pos q1,if_pos q1]
    ·rw[if_neg q1,if_neg q1];by_cases q2:(cs.any fun(m:Corner)=>m.uses k.a k.ea||m.uses k.c k.ec)=true
     ·rw[if_pos q2,if_pos q2]
     ·rw[if_neg q2,if_neg q2];by_cases q3:cornersFit ((pre++[r]).map zZ) cs k=false
      ·rw[if_pos q3,if_pos q3]
      ·rw[if_neg q3,if_neg q3];exact ih (i+1) (cs++[k]) hl (by omega) (.inl (by simp))
  ·have e:i=z.1.length:=by omega
   subst e;rw[ZE,zoB,zhz hh];by_cases h2:z.2=[]
   ·rw[if_pos h2,if_neg (fun q=>q.1 h2),if_neg (fun q=>q h2)]
   ·rw[if_neg h2];dsimp only;rw[zid,if_pos];refine⟨h2,hc.imp_right fun q=>?_⟩;have:=q (z.2++[0]) (by rw[ZE,if_neg h2]);rw[zaP _ _ (by decide)] at this;exact this
theorem zgE (x:Bytes) (long high:Nat) (os:List Opening):opensAt [x] long high 1 0 os=match ZA x long high os with
  |.error k=>.error (0,k)
  |.ok o=>.ok (os++[o]):=by
 rw[zlr];show(match ZA x long high os with
  |.error k=>(.error (0,k):Except Fault (List Opening))
  |.ok o=>opensAt [x] long high 0 (0+1) (os++[o]))=_
 cases ZA x long high os with
 |error k=>rfl
 |ok o=>rfl
def zjH (z:List Bytes×Bytes) (i:Nat):Prop:=∀(pre:List WS) (h:List HV) (os:List Opening) (ls:List Bytes) (g f:Nat),h.length=6->(Zf z).length+1<=f+i->(Zf z).length+1<=g+i ->
 zmA (Zf z) g f i (pre.map zZ) h os=PR z i (pre++[(h,os,ls)],[])
theorem zob (z:List Bytes×Bytes) (i0:Nat) (O:i0+6<=z.1.length->zjH z (i0+6)) (pre:List WS) (g:Nat) (hg:(Zf z).length<=g+i0):∀(m:Nat) (h:List HV) (ls:List Bytes),h.length+m=6->i0+h.length<=z.1.length ->
  zbg (Zf z) g i0 (pre.map zZ) m h=PR z (i0+h.length) (pre++[(h,[],ls)],[]):=by
 intro m
 induction m with
 |zero =>
  intro h ls h6 hl;have h6':h.length=6:=h6;rw[h6'] at hl ⊢;exact O hl pre h [] ls g _ h6' (by omega) (by omega)
 |succ m ih =>
  intro h ls h6 hl;rw[zbg,zgz _ _ (by omega),List.getElem?_drop];have hh:yA (pre++[(h,([]:List Opening),ls)],[])=true:=by rw[zaQ];exact decide_eq_true (show h.length<6 by omega)
  by_cases hlt:i0+h.length<z.1.length
  ·rw[zbV hlt,zkj hlt];have st:yo (pre++[(h,([]:List Opening),ls)],[]) z.1[i0+h.length]=match yG h.length z.1[i0+h.length] with
     |.error k=>.error k
     |.ok v=>.ok (pre++[(h++[v],[],ls++[z.1[i0+h.length]])],[]):=by
    unfold yo;rw[if_neg (by simp),if_pos hh,yZ];unfold yJ Zy;dsimp only;rw[if_pos (show h.length<6 by omega)];cases yG h.length z.1[i0+h.length] <;> rfl
   rw[st];show(match zav i0 (zdW h.length (yG h.length z.1[i0+h.length])) with
    |.error e=>(.error e:Except Fault Site)
    |.ok v=>zbg (Zf z) g i0 (pre.map zZ) m (h++[v]))=_
   cases yG h.length z.1[i0+h.length] with
   |error k=>rfl
   |ok v =>
    dsimp only[zdW,zav];have q:=ih (h++[v]) (ls++[z.1[i0+h.length]]) (by simp;omega) (by simp;omega);rw[q];simp[Nat.add_assoc]
  ·have e:i0+h.length=z.1.length:=by omega
   rw[e,ZE,zgZ (k:=1) (by unfold zbz;rw[if_pos hh])];by_cases h2:z.2=[]
   ·rw[if_pos h2];show Except.error (i0+h.length,1)=_;rw[e]
   ·rw[if_neg h2];dsimp only;rw[zhD _ (by omega)];show Except.error (i0+h.length,1)=_;rw[e]
theorem zf0 (z:List Bytes×Bytes) (i:Nat) (O:i+6<=z.1.length->zjH z (i+6)) (pre:List WS) (g:Nat) (hg:(Zf z).length<=g+i) (hi:i<=z.1.length) :
  ziK (Zf z) g i (pre.map zZ)=if h:i<z.1.length then(match yS (pre,[]) z.1[i] with
   |.error k=>.error (i,k)
   |.ok s=>PR z (i+1) s) else .error (i,1):=by
 rw[znW,zgz _ _ (by omega),List.getElem?_drop,Nat.add_zero];by_cases hlt:i<z.1.length
 ·rw[dif_pos hlt,zbV hlt];have st:yS (pre,[]) z.1[i]=match yG 0 z.1[i] with
    |.error k=>.error k
    |.ok v=>if (pre.any fun q=>nameAt q.1 == nameAt [v])=true then .error 6 else if 4<=pre.length then .error 7 else .ok (pre++[([v],[],[z.1[i]])],[]):=by
   unfold yS yJ Zy;dsimp only;rw[if_pos (show([]:List HV).length<6 by decide)];show(match (match (match yG 0 z.1[i] with
    |Except.error k=>(Except.error k:Except Nat (List HV×List Opening))
    |Except.ok v=>Except.ok (([]:List HV)++[v],([]:List Opening))) with
    |Except.error k=>(Except.error k:Except Nat WS)
    |Except.ok y=>Except.ok (y.1,y.2,([]:List Bytes)++[z.1[i]])) with
    |Except.error k=>(Except.error k:Except Nat SS)
    |Except.ok r=>if (pre.any fun q=>nameAt q.1 == nameAt r.1)=true then Except.error 6 else if 4<=pre.length then Except.error 7 else Except.ok (pre++[r],[]))=_
   cases yG 0 z.1[i] <;> rfl
  rw[st];show(match zav i (zdW 0 (yG 0 z.1[i])) with
   |.error e=>(.error e:Except Fault Site)
   |.ok v=>if ((pre.map zZ).any fun w=>w.name == nameAt [v])=true then .error (i,6) else if 4<=(pre.map zZ).length then .error (i,7) else zbg (Zf z) g i (pre.map zZ) 5 [v])=_
  cases hb:yG 0 z.1[i] with
  |error k =>
   dsimp only[zdW,zav];rw[Nat.add_zero]
  |ok v =>
   dsimp only[zdW,zav];have ea:((pre.map zZ).any fun w=>w.name == nameAt [v])=pre.any fun q=>nameAt q.1 == nameAt [v]:=by
    rw[List.any_map];rfl
   rw[ea,List.length_map];by_cases q6:(pre.any fun q=>nameAt q.1 == nameAt [v])=true
   ·rw[if_pos q6,if_pos q6]
   ·rw[if_neg q6,if_neg q6];by_cases q7:4<=pre.length
    ·rw[if_pos q7,if_pos q7]
    ·rw[if_neg q7,if_neg q7];exact zob z i O pre g hg 5 [v] [z.1[i]] rfl hlt
 ·rw[dif_neg hlt];have e:i=z.1.length:=by omega
  rw[e,ZE];by_cases h2:z.2=[]
  ·rw[if_pos h2];rfl
  ·rw[if_neg h2];dsimp only;rw[zhD _ (by omega)];rfl
theorem zeV {x:Bytes}(h:begins "wall" x=true):begins "corner" x=false:=by
 cases q:begins "corner" x with
 |false=>rfl
 |true =>
  exfalso;unfold begins at h q;rw[Option.isSome_iff_exists] at h q;obtain⟨r,e1⟩:=h;obtain⟨s,e2⟩:=q;have e3:=behind_iff.mp e1;rw[behind_iff.mp e2] at e3;rw[show ascii "corner" = 99::ascii "orner" by decide,show ascii "wall" = 119::ascii "all" by decide] at e3;have h3:(99:UInt8)::(ascii "orner" ++ 32::s)=119::(ascii "all" ++ 32::r):=e3;exact absurd (List.cons.inj h3).1 (by decide)
theorem zoM (z:List Bytes×Bytes):∀(d i:Nat),i<=z.1.length->z.1.length-i<=d->zjH z i:=by
 intro d
 induction d using Nat.strongRecOn with
 |ind d ihd =>
  intro i hi hd pre h os ls g f h6 hf hg;have ln:=zkg z;obtain⟨f,rfl⟩:∃f',f=f'+1:=⟨f-1,by omega⟩
  obtain⟨g,rfl⟩:∃g',g=g'+1:=⟨g-1,by omega⟩
  have ne:(pre.map zZ)++[zck h os]≠[]:=by simp
  have em:(pre.map zZ)++[zck h os]=(pre++[(h,os,ls)]).map zZ:=by rw[List.map_append];rfl
  have hh:yA (pre++[(h,os,ls)],[])=false:=by rw[zaQ];exact decide_eq_false (show ¬h.length<6 by omega)
  have cor:(∀x,(Zf z)[i]?=some x->begins "corner" x=true)->zdI (Zf z) (g+1) i ((pre.map zZ)++[zck h os])=PR z i (pre++[(h,os,ls)],[]):=fun hc=>by
   have e:wallsAt (Zf z) (g+1) i ((pre.map zZ)++[zck h os])=.ok ((pre.map zZ)++[zck h os],i):=by
    rw[wallsAt];cases q:(Zf z)[i]? with
    |none=>exact if_neg ne
    |some x=>exact if_pos ⟨hc x q,ne⟩
   unfold zdI;rw[e];dsimp only;rw[em];exact zks z pre (h,os,ls) (show ¬h.length<6 by omega) _ i [] hi (by omega) (.inr hc)
  have wal:(∃x,(Zf z)[i]?=some x/\begins "wall" x=true)->zdI (Zf z) (g+1) i ((pre.map zZ)++[zck h os])=ziK (Zf z) g i ((pre++[(h,os,ls)]).map zZ):=fun⟨x,hx,hw⟩=>by
   unfold zdI ziK;rw[wallsAt,hx];dsimp only;rw[if_neg (fun q=>by rw[zeV hw] at q;exact absurd q.1 (by decide)),em];cases wallAt (Zf z) i ((pre++[(h,os,ls)]).map zZ) with
   |error e=>rfl
   |ok y=>rfl
  unfold zmA;rw[opensTo];by_cases hl:i<z.1.length
  ·rw[zbV hl];dsimp only;by_cases b1:begins "wall" z.1[i]=true
   ·rw[b1,Bool.true_or,if_pos rfl];dsimp only;rw[wal ⟨_,zbV hl,b1⟩,zf0 z i (fun q=>ihd (z.1.length-(i+6)) (by omega) (i+6) q (Nat.le_refl _)) _ g (by omega) hi,dif_pos hl,zkj hl];have st:yo (pre++[(h,os,ls)],[]) z.1[i]=yS (pre++[(h,os,ls)],[]) z.1[i]:=by
     unfold yo;rw[if_neg (by simp),if_neg (by rw[hh];decide),if_neg (fun q=>q.elim (fun q=>q rfl) fun q=>by rw[zeV b1] at q;cases q),if_pos b1]
    rw[st] <;> (cases yS (pre++[(h,os,ls)],[]) z.1[i] <;> rfl)
   ·have b1':begins "wall" z.1[i]=false:=Bool.eq_false_iff.mpr b1;rw[b1',Bool.false_or];by_cases b2:begins "corner" z.1[i]=true
    ·rw[if_pos b2];exact cor fun x hx=>by
      rw[zbV hl] at hx;rw[<-Option.some.inj hx];exact b2
    ·rw[if_neg b2,zgE,zkj hl];have st:yo (pre++[(h,os,ls)],[]) z.1[i]=match ZA z.1[i] (numAt h 1) (numAt h 2) os with
       |.error k=>.error k
       |.ok p=>.ok (pre++[(h,os++[p],ls++[z.1[i]])],[]):=by
      unfold yo;rw[if_neg (by simp),if_neg (by rw[hh];decide),if_neg (fun q=>q.elim (fun q=>q rfl) b2),if_neg b1,yZ];unfold yJ Zy;dsimp only;rw[if_neg (show ¬h.length<6 by omega)];cases ZA z.1[i] (numAt h 1) (numAt h 2) os <;> rfl
     rw[st];cases ZA z.1[i] (numAt h 1) (numAt h 2) os with
     |error k=>rfl
     |ok p =>
      dsimp only;exact ihd (z.1.length-(i+1)) (by omega) (i+1) hl (Nat.le_refl _) pre h (os++[p]) (ls++[z.1[i]]) (g+1) f h6 (by omega) (by omega)
  ·have e:i=z.1.length:=by omega
   subst e;by_cases h2:z.2=[]
   ·rw[ZE,if_pos h2];exact cor fun x hx=>by
     rw[ZE,if_pos h2] at hx;cases hx
   ·rw[ZE,if_neg h2];dsimp only;rw[zaP _ _ (by decide),zaP _ _ (by decide)];by_cases b1:begins "wall" z.2=true
    ·rw[b1,Bool.true_or,if_pos rfl];dsimp only;rw[wal ⟨z.2++[0],by rw[ZE,if_neg h2],by rw[zaP _ _ (by decide)];exact b1⟩,zf0 z _ (fun q=>by omega) _ g (by omega) (Nat.le_refl _),dif_neg (by omega),zgZ (k:=1)];rw[zhz hh,if_neg (fun q=>q.2.elim (fun q=>q rfl) fun q=>by rw[zeV b1] at q;cases q),if_pos h2]
    ·have b1':begins "wall" z.2=false:=Bool.eq_false_iff.mpr b1;rw[b1',Bool.false_or];by_cases b2:begins "corner" z.2=true
     ·rw[if_pos b2];exact cor fun x hx=>by
       rw[ZE,if_neg h2] at hx;rw[<-Option.some.inj hx,zaP _ _ (by decide)];exact b2
     ·rw[if_neg b2,zgE,zlY,zgZ (k:=1)];rw[zhz hh,if_neg (fun q=>q.2.elim (fun q=>q rfl) b2),if_pos h2]
theorem zmp (t:Bytes):judgeSite t=match Z7 yo zbz ([],[]) (fl 10 t) with
  |.error e=>.error e
  |.ok s=>.ok ⟨s.1.map zZ,s.2⟩:=by
 have e:judgeSite t=zdI (Zf (linesOf t)) ((Zf (linesOf t)).length+1) 0 []:=rfl;rw[e,<-zou];generalize fl 10 t=z;have ep:PR z 0 ([],[])=match Z7 yo zbz ([],[]) z with
   |.error e=>.error e
   |.ok s=>.ok ⟨s.1.map zZ,s.2⟩:=by
  unfold PR Z7;rw[List.drop_zero];cases zeo yo z.1 0 ([],[]) with
  |error e=>rfl
  |ok s =>
   show(match zbz s z.2 with
    |some k=>(.error (z.1.length,k):Except Fault Site)
    |none=>.ok ⟨s.1.map zZ,s.2⟩)=_
   cases h:zbz s z.2 with
   |none =>
    dsimp only;rw[h]
   |some k =>
    dsimp only;rw[h]
 rw[<-ep];unfold zdI;rw[wallsAt];have B:=zf0 z 0 (fun q=>zoM z _ 6 (by omega) (Nat.le_refl _)) [] (Zf z).length (by omega) (Nat.zero_le _);unfold ziK at B;by_cases hl:0<z.1.length
 ·rw[zbV hl];dsimp only;rw[if_neg (fun q=>q.2 rfl)];rw[dif_pos hl] at B;rw[zkj hl];have st:yo ([],[]) z.1[0]=yS ([],[]) z.1[0]:=by
   unfold yo;rw[if_pos rfl]
  rw[st];refine Eq.trans ?_ (B.trans ?_)
  ·show _=(match wallAt (Zf z) 0 [] with
    |.error e=>(.error e:Except Fault Site)
    |.ok y=>zdI (Zf z) (Zf z).length y.2 ([]++[y.1]))
   cases wallAt (Zf z) 0 [] with
   |error e=>rfl
   |ok y=>rfl
  ·cases yS ([],[]) z.1[0] with
   |error e=>rfl
   |ok y=>rfl
 ·have e0:z.1.length=0:=by omega
  have ee:=ZE z;rw[e0] at ee;have pf:PR z 0 ([],[])=.error (0,1):=by
   have q:=zgZ (z:=z) (s:=([],[])) (k:=1) rfl;rw[e0] at q;exact q
  rw[ee,pf];by_cases h2:z.2=[]
  ·rw[if_pos h2];rfl
  ·rw[if_neg h2];dsimp only;rw[if_neg (fun q=>q.2 rfl)];rw[dif_neg hl] at B;refine Eq.trans ?_ B;show _=(match wallAt (Zf z) 0 [] with
    |.error e=>(.error e:Except Fault Site)
    |.ok y=>zdI (Zf z) (Zf z).length y.2 ([]++[y.1]))
   cases wallAt (Zf z) 0 [] with
   |error e=>rfl
   |ok y=>rfl
end Wm
end
section
set_option maxHeartbeats 1000000
namespace Wm
open Bd
structure SGood (s:SS):Prop where
 hd:yA s=true->s.2=[]
 le:longEnough (s.1.map zZ) s.2=true
 w4:s.1.length<=4
 c8:∀k,s.2.getLast?=some k->s.2.length<=2*k.a+k.ea+1/\k.a<4/\k.ea<=1
 full:∀r∈s.1.dropLast,r.1.length=6
 most:∀r∈s.1,r.1.length<=6
theorem SGood.start:SGood ([],[]):=⟨fun _=>rfl,rfl,by decide,fun k h=>by simp at h,fun r h=>by simp at h,fun r h=>by simp at h⟩
theorem zl3 {h h':List HV}{o o':List Opening}{x:Bytes}(e:Zy h o x=.ok (h',o')):(h.length<6/\h'.length=h.length+1)\/(¬h.length<6/\h'=h):=by
 unfold Zy at e;by_cases q:h.length<6
 ·rw[if_pos q] at e;cases hb:yG h.length x with
  |error k=>rw[hb] at e;cases e
  |ok v =>
   rw[hb] at e;obtain⟨rfl,rfl⟩:=Prod.mk.inj (Except.ok.inj e);exact .inl ⟨q,by simp⟩
 ·rw[if_neg q] at e;cases hb:ZA x (numAt h 1) (numAt h 2) o with
  |error k=>rw[hb] at e;cases e
  |ok v =>
   rw[hb] at e;obtain⟨rfl,rfl⟩:=Prod.mk.inj (Except.ok.inj e);exact .inr ⟨q,rfl⟩
theorem zeT {r r':WS}{x:Bytes}(e:yJ r x=.ok r'):(r.1.length<6/\r'.1.length=r.1.length+1)\/(¬r.1.length<6/\r'.1=r.1):=by
 unfold yJ at e;cases ht:Zy r.1 r.2.1 x with
 |error k=>rw[ht] at e;cases e
 |ok z =>
  rw[ht] at e;obtain rfl:=Except.ok.inj e;exact zl3 (h':=z.1) (o':=z.2) ht
theorem zkl (ws:List Wall):longEnough ws []=true:=by
 unfold longEnough;rw[List.all_eq_true];intro i _;rfl
theorem zlS {s s':SS}{x:Bytes}(g:SGood s) (hc:s.2=[]) (hf:∀r∈s.1,r.1.length=6) (e:yS s x=.ok s'):SGood s'/\∃r,s'=(s.1++[r],s.2)/\yJ ([],[],[]) x=.ok r/\(s.1.any fun q=>nameAt q.1 == nameAt r.1)=false/\s.1.length<4:=by
 unfold yS at e;cases hs:yJ ([],[],[]) x with
 |error k=>rw[hs] at e;cases e
 |ok r =>
  rw[hs] at e;dsimp only at e;by_cases q6:(s.1.any fun q=>nameAt q.1 == nameAt r.1)=true
  ·rw[if_pos q6] at e;cases e
  ·rw[if_neg q6] at e;by_cases q7:4<=s.1.length
   ·rw[if_pos q7] at e;cases e
   ·rw[if_neg q7] at e;obtain rfl:=Except.ok.inj e;refine⟨⟨fun _=>hc,by dsimp only;rw[hc];exact zkl _,by simp;omega,fun k h=>by dsimp only at h;rw[hc] at h;simp at h,fun r' h=>?_,fun r' h=>?_⟩,r,rfl,rfl,Bool.eq_false_iff.mpr q6,by omega⟩
    ·dsimp only at h;rw[List.dropLast_concat] at h;exact hf r' h
    ·dsimp only at h;rcases List.mem_append.mp h with m|m
     ·rw[hf r' m];decide
     ·rw[List.mem_singleton.mp m];rcases zeT hs with⟨q1,q2⟩|⟨q1,q2⟩
      ·rw[q2];show 0+1<=6;omega
      ·exact absurd (show([]:List HV).length<6 by decide) q1
theorem zj1 {s:SS}(h:s.1≠[]):∃pre r,s.1=pre++[r]:=by
 rcases List.eq_nil_or_concat s.1 with e|⟨pre,r,e⟩
 ·exact absurd e h
 ·exact⟨pre,r,by rw[e,List.concat_eq_append]⟩
theorem zmM {s:SS}(g:SGood s) (h:yA s=false):∀r∈s.1,r.1.length=6:=by
 by_cases h0:s.1=[]
 ·intro r hr;rw[h0] at hr;cases hr
 ·obtain⟨pre,r0,e⟩:=zj1 h0;intro r hr;have gf:=g.full;have gm:=g.most;rw[e] at hr gf gm;rw[List.dropLast_concat] at gf;rcases List.mem_append.mp hr with m|m
  ·exact gf r m
  ·rw[List.mem_singleton.mp m];have q:yA (pre++[r0],s.2)=false:=by rw[<-e];exact h
   rw[zaQ] at q;have q':=of_decide_eq_false q;have:=gm r0 (by simp);omega
theorem zeq {s s':SS}{x:Bytes}(g:SGood s) (h0:s.1≠[]) (hc:s.2=[]) (e:ZB s x=.ok s'):SGood s'/\∃pre r r',s.1=pre++[r]/\yJ r x=.ok r'/\s'=(pre++[r'],s.2):=by
 obtain⟨pre,r,e0⟩:=zj1 h0;obtain⟨ws,cs⟩:=s;dsimp only at e0 hc;subst e0 hc;rw[yZ] at e;cases hs:yJ r x with
 |error k=>rw[hs] at e;cases e
 |ok r' =>
  rw[hs] at e;obtain rfl:=Except.ok.inj e;have gf:=g.full;have gm:=g.most;have g4:=g.w4;dsimp only at gf gm g4;rw[List.dropLast_concat] at gf;refine⟨⟨fun _=>rfl,zkl _,by simpa using g4,fun k h=>by simp at h,fun r' h=>?_,fun q h=>?_⟩,pre,r,r',rfl,hs,rfl⟩
  ·dsimp only at h;rw[List.dropLast_concat] at h;exact gf r' h
  ·dsimp only at h;rcases List.mem_append.mp h with m|m
   ·exact gm q (by simp[m])
   ·rw[List.mem_singleton.mp m];have:=gm r (by simp);rcases zeT hs with⟨q1,q2⟩|⟨q1,q2⟩
    ·omega
    ·rw[q2];exact this
theorem zlN {α:Type}{p:α->Bool}{l:List α}{i:Nat}(h:l.findIdx? p=some i):i<l.length:=by
 rw[List.findIdx?_eq_some_iff_getElem] at h;exact h.1
theorem cornerIn_good {walls:List Wall}{x:Bytes}{k:Corner}(h:cornerIn walls x=some k):k.a<k.c/\k.c<walls.length/\k.ea<=1/\k.ec<=1:=by
 unfold cornerIn at h;generalize wordsOf x=w at h
 match w,h with
 |[],h=>cases h
 |[_],h=>cases h
 |[_,_],h=>cases h
 |[_,_,_],h=>cases h
 |[_,_,_,_],h=>cases h
 |_::_::_::_::_::_::_,h=>cases h
 |[w,n,e,m,f],h =>
  dsimp only at h;by_cases hw:w=ascii "corner"
  ·rw[if_pos hw] at h;have side:∀{y:Bytes} {j:Nat},sideIn y=some j->j<=1:=fun{y j} q=>by
    unfold sideIn at q;by_cases q1:y=ascii "left"
    ·rw[if_pos q1] at q;have:=Option.some.inj q;omega
    ·rw[if_neg q1] at q;by_cases q2:y=ascii "right"
     ·rw[if_pos q2] at q;have:=Option.some.inj q;omega
     ·rw[if_neg q2] at q;cases q
   cases h1:walls.findIdx? (fun(v:Wall)=>v.name == n) with
   |none=>rw[h1] at h;cases h
   |some a =>
    cases h2:sideIn e with
    |none=>rw[h1,h2] at h;cases h
    |some ea =>
     cases h3:walls.findIdx? (fun(v:Wall)=>v.name == m) with
     |none=>rw[h1,h2,h3] at h;cases h
     |some c =>
      cases h4:sideIn f with
      |none=>rw[h1,h2,h3,h4] at h;cases h
      |some ec =>
       rw[h1,h2,h3,h4] at h;dsimp only at h;by_cases hac:a<c
       ·rw[if_pos hac] at h;obtain rfl:=Option.some.inj h;exact⟨hac,zlN h3,side h2,side h4⟩
       ·rw[if_neg hac] at h;cases h
  ·rw[if_neg hw] at h;cases h
theorem zk3 {s:SS}{x:Bytes}{k:Corner}(g:SGood s) (hh:yA s=false) (e:za9 (s.1.map zZ) s.2 x=.ok k):SGood (s.1,s.2++[k])/\s.2.length<8:=by
 unfold za9 at e;cases hc:cornerIn (s.1.map zZ) x with
 |none=>rw[hc] at e;cases e
 |some k' =>
  rw[hc] at e;dsimp only at e;by_cases q1:(s.2.getLast?.any fun(m:Corner)=>!m.before k')=true
  ·rw[if_pos q1] at e;cases e
  ·rw[if_neg q1] at e;by_cases q2:(s.2.any fun(m:Corner)=>m.uses k'.a k'.ea||m.uses k'.c k'.ec)=true
   ·rw[if_pos q2] at e;cases e
   ·rw[if_neg q2] at e;by_cases q3:cornersFit (s.1.map zZ) s.2 k'=false
    ·rw[if_pos q3] at e;cases e
    ·rw[if_neg q3] at e;obtain rfl:=Except.ok.inj e;obtain⟨ga,gc,gea,gec⟩:=cornerIn_good hc;rw[List.length_map] at gc;have g4:=g.w4;have ne:s.1≠[]:=fun z=>by
      unfold yA at hh;rw[z] at hh;cases hh
     have lb:s.2.length<=2*k'.a+k'.ea:=by
      cases hl:s.2.getLast? with
      |none =>
       rw[List.getLast?_eq_none_iff] at hl;rw[hl];exact Nat.zero_le _
      |some m =>
       obtain⟨c1,c2,c3⟩:=g.c8 m hl;rw[hl] at q1;have q1':m.before k'=true:=by
        cases hb:m.before k' with
        |true=>rfl
        |false=>exact absurd (show(!m.before k')=true by rw[hb];rfl) q1
       unfold Corner.before at q1';rw[Bool.or_eq_true,Bool.and_eq_true,decide_eq_true_eq,decide_eq_true_eq,beq_iff_eq] at q1';omega
     refine⟨⟨fun z=>?_,?_,g4,fun m hm=>?_,g.full,g.most⟩,by omega⟩
     ·have z':yA s=true:=z;rw[hh] at z';cases z'
     ·have q3':cornersFit (s.1.map zZ) s.2 k'=true:=by
       cases hb:cornersFit (s.1.map zZ) s.2 k' with
       |true=>rfl
       |false=>exact absurd hb q3
      unfold cornersFit at q3';rw[Bool.and_eq_true] at q3';exact q3'.2
     ·dsimp only at hm;rw[List.getLast?_concat] at hm;obtain rfl:=Option.some.inj hm;refine⟨?_,by omega,gea⟩;simp;omega
theorem zfW (l:List Corner) (k:Corner) (i e:Nat):((l++[k]).any fun m=>m.uses i e)=((l.any fun m=>m.uses i e)||k.uses i e):=by
 rw[List.any_append];simp
def zcT (walls:List Wall) (l:List Corner) (i e:Nat):Bool:=decide (5<=((walls[i]?).map Wall.long).getD 0)||!(l.any fun m=>m.uses i (1-e))
theorem zm7 {walls:List Wall}{l:List Corner}{k:Corner}(le:longEnough walls l=true) (ha:k.a<k.c) (hc:k.c<walls.length) (hea:k.ea<=1) (hec:k.ec<=1) :
  longEnough walls (l++[k])=(zcT walls l k.a k.ea&&zcT walls l k.c k.ec):=by
 have L:∀l':List Corner,longEnough walls l'=true↔∀i,i<walls.length->(l'.any fun m=>m.uses i 0)=true->(l'.any fun m=>m.uses i 1)=true->5<=((walls[i]?).map Wall.long).getD 0:=fun l'=>by
  unfold longEnough;rw[List.all_eq_true];constructor
  ·intro h i hi h0 h1;have q:=h i (List.mem_range.mpr hi);rw[h0,h1] at q;simpa using q
  ·intro h i hi;have hi':=List.mem_range.mp hi;cases h0:l'.any fun m=>m.uses i 0 with
   |false=>rfl
   |true =>
    cases h1:l'.any fun m=>m.uses i 1 with
    |false=>rfl
    |true=>simpa using h i hi' h0 h1
 have ku:∀i e,k.uses i e=true↔(k.a=i/\k.ea=e)\/(k.c=i/\k.ec=e):=fun i e=>by
  unfold Corner.uses;simp
 have le':=(L l).mp le;rw[Bool.eq_iff_iff,L,Bool.and_eq_true];have R:∀i e,zcT walls l i e=true↔(5<=((walls[i]?).map Wall.long).getD 0\/(l.any fun m=>m.uses i (1-e))=false):=fun i e=>by
  unfold zcT;rw[Bool.or_eq_true,decide_eq_true_eq,Bool.not_eq_true']
 rw[R,R];have one:∀i e,e<=1->k.uses i e=true->i<walls.length->(∀i,i<walls.length->((l++[k]).any fun m=>m.uses i 0)=true->((l++[k]).any fun m=>m.uses i 1)=true->5<=((walls[i]?).map Wall.long).getD 0)->(5<=((walls[i]?).map Wall.long).getD 0\/(l.any fun m=>m.uses i (1-e))=false):=fun i e he hu hi h=>by
  cases q:l.any fun m=>m.uses i (1-e) with
  |false=>exact .inr rfl
  |true =>
   refine .inl (h i hi ?_ ?_)
   ·rw[zfW,Bool.or_eq_true];by_cases z:e=0
    ·subst z;exact .inr hu
    ·have:e=1:=by omega
     subst this;exact .inl q
   ·rw[zfW,Bool.or_eq_true];by_cases z:e=0
    ·subst z;exact .inl q
    ·have:e=1:=by omega
     subst this;exact .inr hu
 constructor
 ·intro h;exact⟨one k.a k.ea hea ((ku _ _).mpr (.inl ⟨rfl,rfl⟩)) (by omega) h,one k.c k.ec hec ((ku _ _).mpr (.inr ⟨rfl,rfl⟩)) hc h⟩
 ·rintro⟨ra,rc⟩ i hi h0 h1;rw[zfW,Bool.or_eq_true] at h0 h1;by_cases u0:k.uses i 0=true
  ·by_cases u1:k.uses i 1=true
   ·-- both of one corner: they are of two walls
    rw[ku] at u0 u1;exfalso;omega
   ·have l1:(l.any fun m=>m.uses i 1)=true:=h1.resolve_right u1;rcases(ku i 0).mp u0 with⟨q1,q2⟩|⟨q1,q2⟩
    ·rw[q1,q2] at ra;exact ra.resolve_right (by rw[show 1-0=1 by rfl,l1];decide)
    ·rw[q1,q2] at rc;exact rc.resolve_right (by rw[show 1-0=1 by rfl,l1];decide)
  ·have l0:(l.any fun m=>m.uses i 0)=true:=h0.resolve_right u0;by_cases u1:k.uses i 1=true
   ·rcases(ku i 1).mp u1 with⟨q1,q2⟩|⟨q1,q2⟩
    ·rw[q1,q2] at ra;exact ra.resolve_right (by rw[show 1-1=0 by rfl,l0];decide)
    ·rw[q1,q2] at rc;exact rc.resolve_right (by rw[show 1-1=0 by rfl,l0];decide)
   ·exact le' i hi l0 (h1.resolve_right u1)
end Wm
end
section
set_option maxHeartbeats 1000000
namespace Wm
open Bd
def zfJ (i:Nat) (v:HV):Bytes:=ascii (zeK i)++32::(match v with
 |.nm b=>b
 |.num n=>if i=1\/i=2 then number n else endWord n)
theorem zgs {w line:Bytes}{r:List Bytes}(h:zz w line=some r):line=zgv 32 (w::r):=by
 unfold zz at h;obtain⟨x,l,e⟩:=yh 32 line;rw[e] at h;dsimp only at h;by_cases q:x=w
 ·rw[if_pos q] at h;obtain rfl:=Option.some.inj h;rw[<-q,<-e,zcE]
 ·rw[if_neg q] at h;cases h
theorem yY {x:Bytes}{n:Nat}(h:readNumber x=some n):number n=x:=by
 unfold readNumber at h;by_cases q:x≠[]/\x.length<=5/\x.all isDigit=true/\number (valueOf x)=x
 ·rw[if_pos q] at h;obtain rfl:=Option.some.inj h;exact q.2.2.2
 ·rw[if_neg q] at h;cases h
theorem zns {x:Bytes}{n:Nat}(h:zbA x=some n):endWord n=x:=by
 unfold zbA at h;unfold endWord;by_cases q1:x=ascii "free"
 ·rw[if_pos q1] at h;obtain rfl:=Option.some.inj h;rw[if_pos rfl,q1]
 ·rw[if_neg q1] at h;by_cases q2:x=ascii "side"
  ·rw[if_pos q2] at h;obtain rfl:=Option.some.inj h;rw[if_neg (by decide),if_pos rfl,q2]
  ·rw[if_neg q2] at h;by_cases q3:x=ascii "end"
   ·rw[if_pos q3] at h;obtain rfl:=Option.some.inj h;rw[if_neg (by decide),if_neg (by decide),q3]
   ·rw[if_neg q3] at h;cases h
theorem zlk {i:Nat}{line:Bytes}{v:HV}(hi:i<6) (e:yG i line=.ok v):line=zfJ i v:=by
 unfold yG at e;cases hf:zz (ascii (zeK i)) line with
 |none=>rw[hf] at e;cases e
 |some r =>
  rw[hf] at e;have j:=zgs hf
  match r,e,j with
  |[],e,_=>cases e
  |_::_::_,e,_=>cases e
  |[x],e,j =>
   dsimp only at e;have j':line=ascii (zeK i)++32::x:=j;rw[j'];unfold zfJ;congr 2;unfold Zl at e;by_cases h0:i=0
   ·rw[if_pos h0] at e;unfold zcl at e;by_cases q1:x=[]\/x.all isSmall=false
    ·rw[if_pos q1] at e;cases e
    ·rw[if_neg q1] at e;by_cases q2:15<x.length
     ·rw[if_pos q2] at e;cases e
     ·rw[if_neg q2] at e;have e':HV.nm x=v:=Except.ok.inj e;rw[<-e']
   ·rw[if_neg h0] at e;have sz:∀{m:Nat},(Zs x m).map HV.num=.ok v->∃n,v=.num n/\number n=x:=fun{m} e=>by
     unfold Zs at e;cases hn:readNumber x with
     |none=>rw[hn] at e;cases e
     |some n =>
      rw[hn] at e;dsimp only at e;by_cases q:n<1\/m<n
      ·rw[if_pos q] at e;cases e
      ·rw[if_neg q] at e;have e':HV.num n=v:=Except.ok.inj e;exact⟨n,e'.symm,yY hn⟩
    by_cases h1:i=1
    ·rw[if_pos h1] at e;obtain⟨n,rfl,e2⟩:=sz e;dsimp only;rw[if_pos (.inl h1),e2]
    ·rw[if_neg h1] at e;by_cases h2:i=2
     ·rw[if_pos h2] at e;obtain⟨n,rfl,e2⟩:=sz e;dsimp only;rw[if_pos (.inr h2),e2]
     ·rw[if_neg h2] at e;cases hn:zbA x with
      |none=>rw[hn] at e;cases e
      |some n =>
       rw[hn] at e;have e':HV.num n=v:=Except.ok.inj e;rw[<-e'];dsimp only;rw[if_neg (fun z=>z.elim h1 h2),zns hn]
theorem zl1 {line:Bytes}{long high:Nat}{os:List Opening}{o:Opening}(e:ZA line long high os=.ok o):line=o.line:=by
 unfold ZA at e;cases hf:zz (ascii "open") line with
 |none=>rw[hf] at e;cases e
 |some r =>
  rw[hf,Option.bind_some] at e;have j:=zgs hf;cases hm:r.mapM readNumber with
  |none=>rw[hm] at e;cases e
  |some ns =>
   rw[hm] at e;have hl:=zdB hm
   match ns,e,hl,hm with
   |[],e,_,_=>cases e
   |[_],e,_,_=>cases e
   |[_,_],e,_,_=>cases e
   |[_,_,_],e,_,_=>cases e
   |_::_::_::_::_::_,e,_,_=>cases e
   |[a,b,c,d],e,hl,hm =>
    match r,hl,hm,j with
    |[xa,xb,xc,xd],_,hm,j =>
     have back:readNumber xa=some a/\readNumber xb=some b/\readNumber xc=some c/\readNumber xd=some d:=by
      simp only[List.mapM_cons,List.mapM_nil] at hm;cases h1:readNumber xa with
      |none=>rw[h1] at hm;cases hm
      |some a' =>
       cases h2:readNumber xb with
       |none=>rw[h1,h2] at hm;cases hm
       |some b' =>
        cases h3:readNumber xc with
        |none=>rw[h1,h2,h3] at hm;cases hm
        |some c' =>
         cases h4:readNumber xd with
         |none=>rw[h1,h2,h3,h4] at hm;cases hm
         |some d' =>
          rw[h1,h2,h3,h4] at hm;have hm':[a',b',c',d']=[a,b,c,d]:=Option.some.inj hm;injection hm' with e1 hm';injection hm' with e2 hm';injection hm' with e3 hm';injection hm' with e4 _;rw[e1,e2,e3,e4];exact⟨rfl,rfl,rfl,rfl⟩
     have eo:o=⟨a,b,c,d⟩:=by
      dsimp only at e;by_cases q1:Opening.within ⟨a,b,c,d⟩ long high=false
      ·rw[if_pos q1] at e;cases e
      ·rw[if_neg q1] at e;by_cases q2:(os.getLast?.any fun(p:Opening)=>!p.before ⟨a,b,c,d⟩)=true
       ·rw[if_pos q2] at e;cases e
       ·rw[if_neg q2] at e;by_cases q3:(os.any fun(p:Opening)=>p.meets ⟨a,b,c,d⟩)=true
        ·rw[if_pos q3] at e;cases e
        ·rw[if_neg q3] at e;by_cases q4:8<=os.length
         ·rw[if_pos q4] at e;cases e
         ·rw[if_neg q4] at e;exact(Except.ok.inj e).symm
     rw[eo];unfold Opening.line;dsimp only;rw[yY back.1,yY back.2.1,yY back.2.2.1,yY back.2.2.2];rw[j];show ascii "open" ++ 32::(xa++32::(xb++32::(xc++32::xd)))=ascii "open " ++ (xa++32::(xb++32::(xc++32::xd)));rw[show ascii "open " = ascii "open" ++ [32] by decide,List.append_assoc];rfl
def zat:Nat->List HV->List Bytes
 |_,[]=>[]
 |i,v::r=>zfJ i v::zat (i+1) r
theorem zdA:∀(h:List HV) (i:Nat) (v:HV),zat i (h++[v])=zat i h++[zfJ (i+h.length) v]
 |[],i,v=>rfl
 |u::r,i,v=>by
  rw[List.cons_append,zat,zdA r (i+1) v,zat,List.cons_append];congr 3;rw[List.length_cons];congr 1;omega
structure WT (w:WS):Prop where
 ls:w.2.2=zat 0 w.1++w.2.1.map Opening.line
 h6:w.1.length<=6
 no:w.1.length<6->w.2.1=[]
theorem WT.start:WT ([],[],[]):=⟨rfl,by decide,fun _=>rfl⟩
theorem WT.step {w w':WS}{x:Bytes}(t:WT w) (e:yJ w x=.ok w'):WT w':=by
 obtain⟨h,os,ls⟩:=w;unfold yJ Zy at e;dsimp only at e;have tl:ls=zat 0 h++os.map Opening.line:=t.ls;by_cases q:h.length<6
 ·rw[if_pos q] at e;cases hb:yG h.length x with
  |error k=>rw[hb] at e;cases e
  |ok v =>
   rw[hb] at e;obtain rfl:=Except.ok.inj e;have no:os=[]:=t.no q;refine⟨?_,by simp;omega,fun _=>no⟩;dsimp only;rw[tl,no,zdA,Nat.zero_add,zlk q hb];simp
 ·rw[if_neg q] at e;cases hb:ZA x (numAt h 1) (numAt h 2) os with
  |error k=>rw[hb] at e;cases e
  |ok o =>
   rw[hb] at e;obtain rfl:=Except.ok.inj e;refine⟨?_,t.h6,fun z=>absurd z q⟩;dsimp only;rw[tl,List.map_append,List.append_assoc,zl1 hb];rfl
def zmj (w:WS):Bytes:=w.2.2.flatMap fun l=>l++[10]
def zqA (h:List HV):Prop:=∀(n:Nat) (x:HV),h[n]?=some x->if n=0 then ∃b,x=.nm b else ∃m,x=.num m
structure STx (B:Nat) (s:SS):Prop where
 wt:∀w∈s.1,WT w
 lb:∀w∈s.1,∀x∈w.2.2,x.length<=B
theorem STx.start (B:Nat):STx B ([],[]):=⟨fun w h=>by simp at h,fun w h=>by simp at h⟩
theorem zk0 {B:Nat}{w w':WS}{x:Bytes}(h:∀y∈w.2.2,y.length<=B) (hx:x.length<=B) (e:yJ w x=.ok w'):∀y∈w'.2.2,y.length<=B:=by
 unfold yJ at e;cases ht:Zy w.1 w.2.1 x with
 |error k=>rw[ht] at e;cases e
 |ok z =>
  rw[ht] at e;obtain rfl:=Except.ok.inj e;intro y hy;rcases List.mem_append.mp hy with m|m
  ·exact h y m
  ·rw[List.mem_singleton.mp m];exact hx
theorem zkP {B:Nat}{s s':SS}{x:Bytes}(t:STx B s) (hx:x.length<=B) (e:yS s x=.ok s'):STx B s':=by
 unfold yS at e;cases hs:yJ ([],[],[]) x with
 |error k=>rw[hs] at e;cases e
 |ok r =>
  rw[hs] at e;dsimp only at e;by_cases q6:(s.1.any fun q=>nameAt q.1 == nameAt r.1)=true
  ·rw[if_pos q6] at e;cases e
  ·rw[if_neg q6] at e;by_cases q7:4<=s.1.length
   ·rw[if_pos q7] at e;cases e
   ·rw[if_neg q7] at e;obtain rfl:=Except.ok.inj e;refine⟨fun w hw=>?_,fun w hw=>?_⟩
    ·rcases List.mem_append.mp hw with m|m
     ·exact t.wt w m
     ·rw[List.mem_singleton.mp m];exact WT.start.step hs
    ·rcases List.mem_append.mp hw with m|m
     ·exact t.lb w m
     ·rw[List.mem_singleton.mp m];exact zk0 (fun y hy=>by simp at hy) hx hs
theorem zgp {B:Nat}{s s':SS}{x:Bytes}(t:STx B s) (hx:x.length<=B) (e:ZB s x=.ok s'):STx B s':=by
 by_cases h0:s.1=[]
 ·unfold ZB at e;rw[h0] at e;cases e
 ·obtain⟨pre,r,e0⟩:=zj1 h0;obtain⟨ws,cs⟩:=s;dsimp only at e0;subst e0;rw[yZ] at e;cases hs:yJ r x with
  |error k=>rw[hs] at e;cases e
  |ok r' =>
   rw[hs] at e;obtain rfl:=Except.ok.inj e;refine⟨fun w hw=>?_,fun w hw=>?_⟩
   ·rcases List.mem_append.mp hw with m|m
    ·exact t.wt w (List.mem_append_left _ m)
    ·rw[List.mem_singleton.mp m];exact(t.wt r (List.mem_append_right _ (by simp))).step hs
   ·rcases List.mem_append.mp hw with m|m
    ·exact t.lb w (List.mem_append_left _ m)
    ·rw[List.mem_singleton.mp m];exact zk0 (t.lb r (List.mem_append_right _ (by simp))) hx hs
theorem zpx {B:Nat}{s s':SS}{x:Bytes}(t:STx B s) (hx:x.length<=B) (e:yo s x=.ok s'):STx B s':=by
 unfold yo at e;by_cases h0:s.1=[]
 ·rw[if_pos h0] at e;exact zkP t hx e
 ·rw[if_neg h0] at e;by_cases h1:yA s=true
  ·rw[if_pos h1] at e;exact zgp t hx e
  ·rw[if_neg h1] at e;by_cases h2:s.2≠[]\/begins "corner" x=true
   ·rw[if_pos h2] at e;cases hc:za9 (s.1.map zZ) s.2 x with
    |error k=>rw[hc] at e;cases e
    |ok k =>
     rw[hc] at e;obtain rfl:=Except.ok.inj e;exact⟨t.wt,t.lb⟩
   ·rw[if_neg h2] at e;by_cases h3:begins "wall" x=true
    ·rw[if_pos h3] at e;exact zkP t hx e
    ·rw[if_neg h3] at e;exact zgp t hx e
theorem zon {B:Nat}:∀{lines:List Bytes}{i:Nat}{s s':SS},STx B s->(∀x∈lines,x.length<=B)->zeo yo lines i s=.ok s'->STx B s'
 |[],i,s,s',t,_,e=>by
  obtain rfl:=Except.ok.inj e;exact t
 |l::r,i,s,s',t,h,e=>by
  rw[zeo] at e;cases hs:yo s l with
  |error k=>rw[hs] at e;cases e
  |ok s1 =>
   rw[hs] at e;exact zon (zpx t (h l (by simp)) hs) (fun x hx=>h x (by simp[hx])) e
theorem zpO {B:Nat}{z:List Bytes×Bytes}{s:SS}(h:∀x∈z.1,x.length<=B) (e:Z7 yo zbz ([],[]) z=.ok s):STx B s:=by
 unfold Z7 at e;cases hr:zeo yo z.1 0 ([],[]) with
 |error k=>rw[hr] at e;cases e
 |ok s1 =>
  rw[hr] at e;dsimp only at e;cases hf:zbz s1 z.2 with
  |some k=>rw[hf] at e;cases e
  |none =>
   rw[hf] at e;obtain rfl:=Except.ok.inj e;exact zon (STx.start B) h hr
theorem znp {z:List Bytes×Bytes}{s:SS}(e:Z7 yo zbz ([],[]) z=.ok s):yA s=false:=by
 unfold Z7 at e;cases hr:zeo yo z.1 0 ([],[]) with
 |error k=>rw[hr] at e;cases e
 |ok s1 =>
  rw[hr] at e;dsimp only at e;cases hf:zbz s1 z.2 with
  |some k=>rw[hf] at e;cases e
  |none =>
   rw[hf] at e;obtain rfl:=Except.ok.inj e;unfold zbz at hf;cases hh:yA s1 with
   |false=>rfl
   |true =>
    rw[if_pos hh] at hf;cases hf
end Wm
end
section
namespace HT
open PySem PyProof.Rows
section
variable {prog:Program}{w:World}{A:Around}{E:Value->Shared->Prop}{s:Shared}
end
end HT
namespace L2
open PySem PySem.Spec PyProof.Rows
section
variable {X:Cx}
end
end L2
end
namespace Sm
open PySem PySem.Spec PyProof.Rows
def tb (led:Bool) (ks:List Nat):SetTable:={ mask:=7,place:=ks.toArray,dummies:=#[],finger:=0,led,moves:=0,plain:=true }
def subs:List (List Nat):=[[],[0],[1],[2],[3],[0,1],[0,2],[0,3],[1,2],[1,3],[2,3],[0,1,2],[0,1,3],[0,2,3],[1,2,3],[0,1,2,3]]
def ins (v:Nat) (ks:List Nat):List Nat:=(List.range 4).filter fun k=>k == v||ks.contains k
def pos (v:Nat) (ks:List Nat):Nat:=(ks.filter (·<v)).length
theorem zpb:∀led∈[true,false],∀ks∈subs,∀v∈[0,1,2,3],v∉ks->(tb led ks).freeSlot ((v:Nat):Int)=some (v,false)/\(tb led ks).put v=(tb led (ins v ks),pos v ks)/\(tb led (ins v ks)).tooFull=false
  /\ (tb led (ins v ks)).fits (ks.length+1)=true/\ks.take (pos v ks)++v::ks.drop (pos v ks)=ins v ks:=by decide +kernel
theorem zoj:∀ks∈subs,∀v∈[0,1,2,3],ins v ks∈subs/\(v∈ks->ins v ks=ks):=by decide +kernel
theorem znY:∀ks∈subs,∀i∈List.range 4,∀k,ks[i]?=some k->SetTable.below ks.toArray (k+1)=i+1:=by
 intro ks hk i hi k e;have z:∀ks∈subs,∀i∈List.range 4,(ks[i]?.all fun k=>SetTable.below ks.toArray (k+1) == i+1)=true:=by decide +kernel
 have y:=z ks hk i hi;rw[e] at y;simpa using y
theorem zpm:∀ks∈subs,SetTable.below ks.toArray 0=0:=by decide +kernel
theorem subs_len:∀ks∈subs,ks.length<=4:=by decide +kernel
theorem znG:∀led∈[true,false],∀ks∈subs,(tb led ks).fits ks.length=true:=by decide +kernel
theorem zo3:∀ks∈subs,∀k∈ks,k<4:=by decide +kernel
theorem zol (led:Bool):led∈[true,false]:=by cases led <;> simp
theorem zqm {v:Nat}(h:v<4):v∈[0,1,2,3]:=by
 have:v=0\/v=1\/v=2\/v=3:=by omega
 rcases this with rfl|rfl|rfl|rfl <;> simp
structure At (h:Heap) (a:Addr) (led:Bool) (ep:Nat) (es:Array (Int×Value)) (ks:List Nat):Prop where
 get:h.get? a=some { cls:=.type "set",dict:=none,data:=.set es ep (tb led ks),slots:=#[] }
 fst:es.toList.map Prod.fst=ks.map Int.ofNat
 snd:∀e∈es.toList,∃t,e.2=.int e.1 t
 sub:ks∈subs
theorem At.size {h a led ep es ks}(A:At h a led ep es ks):es.size=ks.length:=by
 have z:=congrArg List.length A.fst;simpa using z
theorem At.fits {h a led ep es ks}(A:At h a led ep es ks):(tb led ks).fits es.size=true:=by
 rw[A.size];exact znG _ (zol _) _ A.sub
theorem At.mv {h h' a led ep es ks}(A:At h a led ep es ks) (e:∀o,h.get? a=some o->h'.get? a=some o):At h' a led ep es ks:=⟨e _ A.get,A.fst,A.snd,A.sub⟩
theorem At.lt {h a led ep es ks}(A:At h a led ep es ks):a<h.objs.size:=Heap.lt_size A.get
section
variable {prog:Program}{w:World}{A:Around}{E:Value->Shared->Prop}{s:Shared}
theorem At.elems {h a led ep es ks}(A:At h a led ep es ks):ElemsOf (intKind prog w) es.toList:=by
 intro e he;obtain⟨t,q⟩:=A.snd e he;have hm:e.1∈ks.map Int.ofNat:=by rw[<-A.fst];exact List.mem_map_of_mem he
 obtain⟨k,hk,ek⟩:=List.mem_map.mp hm;have hlt:=zo3 _ A.sub k hk;refine⟨⟨e.1,by rw[q];exact intKind_is _ _ _ _,?_⟩,by rw[q];rfl⟩;rw[<-ek];have:k=0\/k=1\/k=2\/k=3:=by omega
 rcases this with rfl|rfl|rfl|rfl <;> rfl
theorem add {a led ep es ks}{v:Nat}{t:Tok}{Q:Bool->Shared->Prop}(S:At s.heap a led ep es ks) (hv:v<4)
  (h:∀h' ep' es' b,Heap.SameBut a s.heap h'->At h' a led ep' es' (ins v ks)->Q b { s with heap:=h' }) :
  wpAny (model prog w) A (setAddHashed a (.int (v:Nat) t) ((intKind prog w).hash (v:Nat))) Q E s:=by
 have hl:=subs_len _ S.sub;have hz:=S.size;have hb:es.size<scanBound:=by unfold scanBound;omega
 have hkey:(intKind prog w).is ((v:Nat):Int) (.int (v:Nat) t)=true:=intKind_is _ _ _ _;have hsc:(Value.int (v:Nat) t).scannable=true:=rfl;have hh:(intKind prog w).hash ((v:Nat):Int)=((v:Nat):Int):=by
  have:v=0\/v=1\/v=2\/v=3:=by omega
  rcases this with rfl|rfl|rfl|rfl <;> rfl
 have hel:=S.elems (prog:=prog) (w:=w);unfold setAddHashed setAddHashedIn;refine wpAny_holding (wpAny_bind (wpAny_setState_of S.get rfl S.fits ?_));dsimp only;rw[byScan_of hsc hb hel];simp only[↓reduceIte];unfold setAddByScan;refine wpAny_bind ?_;refine wpAny_bind (wpAny_rule ?_);refine wpAny_bind (wpAny_setScan_of hkey S.get rfl S.fits hel ?_);have mem:(∃e∈es.toList,(intKind prog w).is ((v:Nat):Int) e.2=true)↔v∈ks:=by
  constructor
  ·rintro⟨e,he,q⟩;obtain⟨t',q'⟩:=S.snd e he;have e1:((v:Nat):Int)=e.1:=(intKind prog w).inj e.2 _ _ q (by rw[q'];exact intKind_is _ _ _ _);have hm:e.1∈ks.map Int.ofNat:=by rw[<-S.fst];exact List.mem_map_of_mem he
   obtain⟨k,hk,ek⟩:=List.mem_map.mp hm;have:k=v:=by
    have:(Int.ofNat k)=((v:Nat):Int):=ek.trans e1.symm;exact Int.ofNat.inj this
   exact this ▸ hk
  ·intro hk;have hm:((v:Nat):Int)∈es.toList.map Prod.fst:=by rw[S.fst];exact List.mem_map_of_mem (f:=Int.ofNat) hk
   obtain⟨e,he,ee⟩:=List.mem_map.mp hm;obtain⟨t',q'⟩:=S.snd e he;exact⟨e,he,by rw[q',ee];exact intKind_is _ _ _ _⟩
 cases hr:List.findIdx? (fun e=>(intKind prog w).is ((v:Nat):Int) e.2) es.toList with
 |some j =>
  dsimp only;obtain⟨hj,hpj,_⟩:=List.findIdx?_eq_some_iff_getElem.mp hr;have hk:v∈ks:=mem.mp ⟨es.toList[j],List.getElem_mem hj,hpj⟩;refine wpAny_pure (wpAny_pure ?_);have:=h s.heap ep es false (Heap.SameBut.refl a s.heap) (by rw[(zoj _ S.sub v (zqm hv)).2 hk];exact S);have e:s={ s with heap:=s.heap }:=by cases s;rfl
  rw[e];exact this
 |none =>
  dsimp only;have hk:v∉ks:=fun hk=>by
   obtain⟨e,he,q⟩:=mem.mpr hk;have:=List.findIdx?_eq_none_iff.mp hr e he;rw[q] at this;exact Bool.noConfusion this
  obtain⟨f1,f2,f3,f4,f5⟩:=zpb led (zol _) ks S.sub v (zqm hv) hk;have hps:pos v ks<=es.size:=by rw[hz];exact List.length_filter_le _ _
  have hsz:(SetTable.insertAt es (pos v ks) (((v:Nat):Int),Value.int (v:Nat) t)).size=ks.length+1:=by
   have z:=(SetTable.insertAt_perm es (pos v ks) (((v:Nat):Int),Value.int (v:Nat) t)).length_eq;simp only[Array.length_toList,Array.size_push] at z;omega
  have hL:layNew (tb led ks) es ((intKind prog w).hash ((v:Nat):Int)) (.int (v:Nat) t)=(SetTable.insertAt es (pos v ks) (((v:Nat):Int),Value.int (v:Nat) t),tb led (ins v ks),false,false):=by
   rw[hh];unfold layNew;rw[f1];dsimp only;rw[f2];dsimp only;unfold SetTable.orStandIn;rw[hsz,f4];rfl
  rw[hL];dsimp only;generalize hes:SetTable.insertAt es (pos v ks) (((v:Nat):Int),Value.int (v:Nat) t)=es1 at *;refine wpAny_bind (wpAny_pure ?_);rw[if_pos (show(tb led (ins v ks)).plain=true from rfl)];refine wpAny_bind ?_;rw[hashByValue_scannable 8 hsc];refine wpAny_pure ?_;simp only[plainKind,if_true];refine wpAny_bind (wpAny_storeSet_of S.get rfl ?_ (fits_of_scanBound (by unfold scanBound;omega)));rw[f3];simp only[Bool.not_false,Bool.and_false,Bool.false_eq_true,if_false];refine wpAny_pure (wpAny_pure (h _ (ep+1) es1 true (Heap.SameBut.update s.heap a (Obj.putSet es1 (tb led (ins v ks)))) ⟨?_,?_,?_,(zoj _ S.sub v (zqm hv)).1⟩))
  ·have q:=Heap.get?_update_self (Obj.putSet es1 (tb led (ins v ks))) S.get (by rw[putSet_of es1 _ rfl];rfl);rw[putSet_of es1 _ rfl] at q;exact q
  ·rw[<-hes,SetTable.toList_insertAt,List.map_append,List.map_cons,List.map_take,List.map_drop,S.fst,<-f5];simp
  ·intro e he;rw[<-hes,SetTable.toList_insertAt] at he;rcases List.mem_append.mp he with he|he
   ·exact S.snd e (List.mem_of_mem_take he)
   ·rcases List.mem_cons.mp he with rfl|he
    ·exact⟨t,rfl⟩
    ·exact S.snd e (List.mem_of_mem_drop he)
end
def allOf (val:Nat->Nat) (i:Nat):List Nat:=(List.range i).foldl (fun ks j=>ins (val j) ks) []
theorem zhr (val:Nat->Nat) (i:Nat):allOf val (i+1)=ins (val i) (allOf val i):=by
 unfold allOf;rw[List.range_succ,List.foldl_append];rfl
theorem allOf_eq (val:Nat->Nat) (i:Nat):allOf val i=(List.range 4).filter fun k=>((List.range i).map val).contains k:=by
 induction i with
 |zero=>simp[allOf]
 |succ i ih =>
  have e:(List.range (i+1)).map val=(List.range i).map val++[val i]:=by rw[List.range_succ,List.map_append];rfl
  rw[zhr,ih,e];unfold ins;apply List.filter_congr;intro k hk;rw[Bool.eq_iff_iff];simp only[Bool.or_eq_true,beq_iff_eq,List.contains_iff_mem,List.mem_filter,List.mem_append,List.mem_singleton];constructor
  ·rintro(h|⟨_,h⟩)
   ·exact .inr h
   ·exact .inl h
  ·rintro(h|h)
   ·exact .inr ⟨hk,h⟩
   ·exact .inl h
section
variable {prog:Program}{w:World}{A:Around}{R:Result->Shared->Prop}{I:Addr}{fp wr:List Addr}{G:Array GenState->Array GenState->Prop}{n:Nat}{P:Nat->Value->Prop}{St:Nat->Shared->Prop}
theorem zoR (W:WalksS prog w A.in1 I fp wr G n P St) (S:Addr) (hSf:S∉fp) (led:Bool)
  (val:Nat->Nat) (hval:∀i v,P i v->∃t,v=.int (val i:Nat) t) (hlt:∀i,val i<4) :
  ∀(k i:Nat) (s:Shared) (ep:Nat) (es:Array (Int×Value)),n-i=k->i<=n->St i s->At s.heap S led ep es (allOf val i) ->
   (∀s' ep' es',Moved (S::wr) G s s'->At s'.heap S led ep' es' (allOf val n)->R (.ok (.ret .none)) s') ->
   codeAny (model prog w) A (.builtin "set.update.loop" ⟨[.ref S,.ref I],[]⟩) R s:=by
 have hSw:S∉wr:=fun h=>hSf (W.sub _ h);have hsub:∀b∈wr,b∈S::wr:=fun b hb=>List.mem_cons_of_mem _ hb;intro k
 induction k with
 |zero =>
  intro i s ep es hk hi hst hS hR;have hin:i=n:=by omega
  subst hin;refine codeAny_builtin F.entry_set_update_loop ?_;rw[Around.under_plainId F.plain_set_update_loop _];show wpAny _ A.in1 (pyNext (.ref I) >>= _) _ _ s;refine wpAny_bind (W.done s _ _ hst fun s' hm=>?_);show wpAny _ A.in1 (ret Value.none) _ _ s';exact wpAny_pure (hR s' _ _ (hm.mono hsub) (hS.mv fun o e=>hm.heap S _ hSw e))
 |succ k ih =>
  intro i s ep es hk hi hst hS hR;have hl:i<n:=by omega
  refine codeAny_builtin F.entry_set_update_loop ?_;rw[Around.under_plainId F.plain_set_update_loop _];show wpAny _ A.in1 (pyNext (.ref I) >>= _) _ _ s;refine wpAny_bind (W.item i s _ _ hl hst fun v s' hP hst' hm=>?_);obtain⟨t,rfl⟩:=hval i v hP;have hS':=hS.mv fun o e=>hm.heap S _ hSw e;show wpAny _ A.in1 (holding [Value.int (val i:Nat) t] (setAdd S (.int (val i:Nat) t)) >>= _) _ _ s';refine wpAny_bind (wpAny_holding ?_);unfold setAdd;refine wpAny_holding ?_;refine wpAny_bind ((intKind prog w).pyHash (k:=((val i:Nat):Int)) (intKind_is _ _ _ _) ?_);refine add (s:={ s' with toks:=s'.toks+1 }) hS' (hlt i) fun h' ep' es' b hsb hS2=>?_;rw[<-zhr] at hS2;refine wpAny_pure ⟨plainId_quiet F.plain_set_update_loop _,ih (i+1) _ ep' es' (by omega) hl (W.frame _ s' _ _ hst' (Nat.le_succ _) fun b hb o e=>?_) hS2 fun s'' ep'' es'' hm'' hS''=>?_⟩
  ·rw[hsb.2 b (fun h:b=S=>hSf (by rw[<-h];exact hb))];exact e
  ·refine hR s'' ep'' es'' (Moved.trans W.gtrans ((hm.mono hsub).then_heap (Nat.le_succ _) fun b o hb e=>?_) hm'') hS'';rw[hsb.2 b (fun h:b=S=>hb (by rw[h];exact List.mem_cons_self))];exact e
end
section
variable {prog:Program}{w:World}{A:Around}{E:Value->Shared->Prop}{s:Shared}
def ledOf (w:World):Bool:=!w.params.followText "set-order"
theorem zps (a:Value) {Q₁:Value->Shared->Prop}
  (h:Q₁ (.ref s.heap.objs.size) { s with heap:=s.heap.push { cls:=.type "set",dict:=none,data:=.set #[] 0 (tb (ledOf w) []) } }) :
  codeAny (model prog w) A (.call (.builtin "set.__new__") ⟨[.type "set",a],[]⟩) (wants Q₁ E) s:=by
 refine codeAny_of_tree ?_;show wpAny _ A.in1 (do checkBuiltinCall "set.__new__" ⟨[.type "set",a],[]⟩;again (.builtin "set.__new__" ⟨[.type "set",a],[]⟩)) _ _ s;refine wpAny_bind (wpAny_of_eq (F.newCall_set_1 a) (wpAny_pure ⟨plainId_quiet F.plain_set_new _,codeAny_builtin F.entry_set_new ?_⟩));rw[Around.under_plainId F.plain_set_new _];unfold Builtin.«set.__new__» Builtin.Frozenset.newClass;have hsub:=sub_set_self;obtain⟨hp,g,d,tk,os⟩:=s;dsimp only
 wp_walk
 refine wpAny_askSetting (wpAny_pure ?_);dsimp only;simp only[newObj];refine wpAny_bind (wpAny_alloc (wpAny_pure ?_));exact wpAny_pure h
set_option maxHeartbeats 3200000 in
theorem set_list {l:Addr}{items:Array Value}{val:Nat->Nat}{Q:Value->Shared->Prop}
  (hh:A.handled=none) (hl:s.heap.IsList l items) (hval:∀(i:Nat) (v:Value),items[i]?=some v->∃t,v=.int (val i:Nat) t) (hlt:∀i,val i<4)
  (h:∀(h':Heap) (tk ep:Nat) es,At h' s.heap.objs.size (ledOf w) ep es (allOf val items.size) ->
    (∀b o,b<s.heap.objs.size->s.heap.get? b=some o->h'.get? b=some o)->Q (.ref s.heap.objs.size) { s with heap:=h',toks:=tk }) :
  wpAny (model prog w) A (call (.type "set") [.ref l]) Q E s:=by
 obtain⟨c,tl,hmro⟩:=F.called_set.mro;have hmade:=F.called_set.made;have hsub:=F.called_set.sub;refine wpAny_call (codeAny_of_tree ?_);show wpAny _ _ (callAny (.type "set") _) _ _ _;refine wpAny_pure ⟨Code.quiet_builtin _ (by decide +kernel),codeAny_builtin F.entry_type_call ?_⟩;rw[Around.under_plain (weight_type_call_type "set" [.ref l] []) rfl];have h1:=F.called_set.notType;have h2:=F.called_set.canCreate;have hct:=F.typeCall_set_1 (.ref l)
 repeat (any_goals (first|assumption|wp_step))
 refine codeAny_mono (zps (.ref l) (E:=E) (Q₁:=fun obj s₁=>obj=.ref s.heap.objs.size/\s₁={ s with heap:=s.heap.push { cls:=.type "set",dict:=none,data:=.set #[] 0 (tb (ledOf w) []) } }) ⟨rfl,rfl⟩) fun r s₁ hr=>?_;cases r with
 |error e=>exact hr
 |ok fl =>
  cases fl with
  |ret obj =>
   obtain⟨rfl,rfl⟩:=hr;have hS:(s.heap.push { cls:=.type "set",dict:=none,data:=.set #[] 0 (tb (ledOf w) []) }).get? s.heap.objs.size=some { cls:=.type "set",dict:=none,data:=.set #[] 0 (tb (ledOf w) []) }:=Heap.get?_push_size _ rfl;have hT:Shared.TypeIs { s with heap:=s.heap.push { cls:=.type "set",dict:=none,data:=.set #[] 0 (tb (ledOf w) []) } } (.ref s.heap.objs.size) "set" := ⟨_,hS,rfl⟩;have hli:=F.called_set.init.lookup;have hbi:=F.called_set.init.bind (.ref s.heap.objs.size)
   repeat (any_goals (first|assumption|wp_step))
   refine codeAny_mono (codeAny_call_builtin (R:=wants (fun r s₂=>r=.none/\∃h' tk ep es,s₂={ s with heap:=h',toks:=tk } /\
     At h' s.heap.objs.size (ledOf w) ep es (allOf val items.size) /\
     (∀b o,b<s.heap.objs.size->s.heap.get? b=some o->h'.get? b=some o)) E) F.called_set.init.plain F.entry_set_init (check_set_init_1 hT ?_)) fun r₂ s₂ hr₂=>?_
   ·obtain⟨ol,hol,hcl,nl,hdl⟩:=hl;obtain⟨ocls,odict,odata,oslots⟩:=ol;simp only at hcl hdl;subst hcl;subst hdl;have hol':(s.heap.push { cls:=.type "set",dict:=none,data:=.set #[] 0 (tb (ledOf w) []) }).get? l=some { cls:=.type "list",dict:=odict,data:=.seq items nl,slots:=oslots }:=Heap.get?_push_of_some _ hol;have hsls:=F.sub_list_set;have hslf:=F.sub_list_frozenset;have hne:(Value.type "list" == Value.type "dict")=false:=by decide
    have hl1:(s.heap.push { cls:=.type "set",dict:=none,data:=.set #[] 0 (tb (ledOf w) []) }).IsList l items:=⟨_,hol',rfl,nl,rfl⟩
    unfold Builtin.«set.__init__» noKeywords Builtin.Frozenset.updateFrom;generalize hPI:pyIter=PI
    wp_walk
    subst hPI;refine wpAny_pyIter_list hl1 ?_;refine wpAny_bind (wpAny_runValue ?_);have hlS:l<s.heap.objs.size:=Heap.lt_size hol;have hh3:A.in1.in1.in1.handled=none:=by simp[hh]
    have hneI:l≠(s.heap.push { cls:=.type "set",dict:=none,data:=.set #[] 0 (tb (ledOf w) []) }).objs.size:=by
     rw[Heap.size_push];exact Nat.ne_of_lt (Nat.lt_succ_of_lt hlS)
    have hSf:s.heap.objs.size∉[(s.heap.push { cls:=.type "set",dict:=none,data:=.set #[] 0 (tb (ledOf w) []) }).objs.size,l]:=by
     rw[Heap.size_push];simp only[List.mem_cons,List.mem_singleton,List.not_mem_nil,or_false,not_or];exact⟨Nat.ne_of_lt (Nat.lt_succ_self _),Nat.ne_of_gt hlS⟩
    refine zoR ((Walks.list hh3 _ l hneI items).toS) s.heap.objs.size hSf (ledOf w) val hval hlt (items.size-0) 0 _ 0 #[] (by omega) (Nat.zero_le _)
     ⟨⟨_,Heap.get?_push_size _ rfl,rfl,rfl⟩,(hl1.push _)⟩ ?hS0 ?hR
    case hS0 =>
     exact⟨Heap.get?_push_of_some _ hS,rfl,fun e he=>by simp at he,by show([]:List Nat)∈subs;decide⟩
    case hR =>
     intro s' ep' es' hm hS';obtain⟨h',g',d',tk',os'⟩:=s';have eg:g'=s.gens:=hm.gens;have ed:d'=s.drawn:=hm.drawn;have eo:os'=s.os:=hm.os;subst eg;subst ed;subst eo;show wpAny _ _ _ _ _ _;refine wpAny_pure ?_;show wpAny _ _ (ret Value.none) _ _ _;refine wpAny_pure ⟨rfl,h',tk',ep',es',rfl,hS',fun b o hb e=>?_⟩;have hb1:b≠s.heap.objs.size:=Nat.ne_of_lt hb;have hb2:b≠(s.heap.push { cls:=.type "set",dict:=none,data:=.set #[] 0 (tb (ledOf w) []) }).objs.size:=by
      rw[Heap.size_push];exact Nat.ne_of_lt (Nat.lt_succ_of_lt hb)
     exact hm.heap b o (by simp only[List.mem_cons,List.mem_singleton,List.not_mem_nil,or_false,not_or];exact⟨hb1,hb2⟩) (Heap.get?_push_of_some _ (Heap.get?_push_of_some _ e))
   ·cases r₂ with
    |error e=>exact hr₂
    |ok fl₂ =>
     cases fl₂ with
     |ret r =>
      obtain⟨rfl,h',tk,ep',es',rfl,hS',hk'⟩:=hr₂
      repeat (any_goals (first|assumption|wp_step))
      exact h _ _ _ _ hS' hk'
     |_=>exact hr₂.elim
  |_=>exact hr.elim
end
theorem slot_next:Slot "set_iterator" "__next__" "set_iterator.__next__" :=
 .of (owner := "set_iterator") (n := "__next__") (by rw[typeLookup_type,builtinLookup_eq_fast];kernel_rfl) (by decide +kernel) (by decide +kernel) (by decide +kernel)
  (by first|exact .inl (by decide +kernel)|exact .inr (by decide +kernel)) (by rw[isSubtype_type];kernel_rfl)
theorem zic:entryFor table "set_iterator.__next__" = some Builtin.«set_iterator.__next__»:=entryFor_of_tree (by kernel_rfl)
theorem zja (a:Value):argsOk "set_iterator.__next__" ⟨[a],[]⟩:=by
 unfold argsOk;rw[signature?_of (id := "set_iterator.__next__") (n := "__next__".toList.reverse) (o := "set_iterator".toList.reverse) (rows:=Manifest.sig_set_iterator) (by kernel_rfl) (by kernel_rfl)];kernel_rfl
theorem zji:Slot "set_iterator" "__iter__" "set_iterator.__iter__" :=
 .of (owner := "set_iterator") (n := "__iter__") (by rw[typeLookup_type,builtinLookup_eq_fast];kernel_rfl) (by decide +kernel) (by decide +kernel) (by decide +kernel)
  (by first|exact .inl (by decide +kernel)|exact .inr (by decide +kernel)) (by rw[isSubtype_type];kernel_rfl)
theorem zgW:entryFor table "set.__iter__" = some Builtin.«frozenset.__iter__» :=
 entryFor_alias (id' := "frozenset.__iter__") (by kernel_rfl) rfl (by decide +kernel) (by kernel_rfl)
theorem zl7:entryFor table "set_iterator.__iter__" = some Builtin.«dict_keyiterator.__iter__» :=
 entryFor_alias (id' := "dict_keyiterator.__iter__") (by kernel_rfl) rfl (by decide +kernel) (by kernel_rfl)
theorem zmO (a:Value):argsOk "set_iterator.__iter__" ⟨[a],[]⟩:=by
 unfold argsOk;rw[signature?_of (id := "set_iterator.__iter__") (n := "__iter__".toList.reverse) (o := "set_iterator".toList.reverse) (rows:=Manifest.sig_set_iterator) (by kernel_rfl) (by kernel_rfl)];kernel_rfl
theorem zlK {α:Type}(l:List α) (i:Nat) (h:i<l.length):(l[i]::l.eraseIdx i).Perm l:=by
 rw[List.eraseIdx_eq_take_drop_succ];refine(List.perm_middle (l₁:=l.take i) (l₂:=l.drop (i+1)) (a:=l[i])).symm.trans ?_;rw[List.getElem_cons_drop,List.take_append_drop]
theorem zo8 {α:Type}(next:Nat->Nat):∀(n k:Nat) (l:List α) (out:Array α),l.length=n->∃q:List α,(pickOrder.go next n k l out).toList=out.toList++q/\q.Perm l:=by
 intro n
 induction n with
 |zero =>
  intro k l out h;refine⟨[],?_,?_⟩
  ·simp[pickOrder.go]
  ·rw[List.length_eq_zero_iff.mp h]
 |succ n ih =>
  intro k l out h;have hp:next k % l.length<l.length:=Nat.mod_lt _ (by omega)
  unfold pickOrder.go;rw[List.getElem?_eq_getElem hp];dsimp only;obtain⟨q,h1,h2⟩:=ih (k+1) (l.eraseIdx (next k % l.length)) (out.push l[next k % l.length]) (by rw[List.length_eraseIdx_of_lt hp];omega);refine⟨l[next k % l.length]::q,by rw[h1];simp,?_⟩;exact(List.Perm.cons _ h2).trans (zlK l _ hp)
theorem zmN {α:Type}(next:Nat->Nat) (xs:Array α):(pickOrder next xs).toList.Perm xs.toList:=by
 obtain⟨q,h1,h2⟩:=zo8 next xs.size 0 xs.toList #[] (by simp)
 unfold pickOrder;rw[h1];simpa using h2
def walk (w:World) (a:Addr) (ep:Nat) (es:Array (Int×Value)):Array (Int×Value):=if ledOf w then es else pickOrder (w.params.setOrder a ep) es
theorem walk_perm (w:World) (a:Addr) (ep:Nat) (es:Array (Int×Value)):(walk w a ep es).toList.Perm es.toList:=by
 unfold walk;split
 ·exact .refl _
 ·exact zmN _ _
theorem walk_size (w:World) (a:Addr) (ep:Nat) (es:Array (Int×Value)):(walk w a ep es).size=es.size:=by
 have:=(walk_perm w a ep es).length_eq;simpa using this
def ItAt (h:Heap) (it a:Addr) (led:Bool) (i n ep:Nat) (ks:List Nat):Prop :=
 ∃sl:Nat,h.get? it=some { cls:=.type "set_iterator",data:=.fields #[.int (sl:Nat) 0,.int (i:Nat) 0,.ref a,.int (n:Nat) 0,.int (ep:Nat) 0] }/\(led=true->SetTable.below ks.toArray sl=i)
theorem ItAt.mv {h h':Heap}{it a led i n ep ks}(x:ItAt h it a led i n ep ks) (e:∀o,h.get? it=some o->h'.get? it=some o):ItAt h' it a led i n ep ks:=let ⟨sl,q,r⟩:=x;⟨sl,e _ q,r⟩
section
variable {prog:Program}{w:World}{A:Around}{E:Value->Shared->Prop}{s:Shared}{a it:Addr}{ep:Nat}{es:Array (Int×Value)}{ks:List Nat}
theorem At.typeIs (S:At s.heap a (ledOf w) ep es ks):s.TypeIs (.ref a) "set" := ⟨_,S.get,rfl⟩
theorem hint (hT:s.TypeIs (.ref a) "set") {Q:Bool->Shared->Prop}(h:Q false s):wpAny (model prog w) A (Builtin.List.listLengthHint (.ref a)) Q E s:=by
 unfold Builtin.List.listLengthHint;refine wpAny_bind (wpAny_specialOf hT F.slot_set_len.lookup ?_);generalize hid:("set.__len__" : String)=id0
 wp_delta
 rw[show splitId id0=some ("set", "__len__") from by subst hid;decide +kernel];subst hid;refine wpAny_bind (wpAny_isInstance (T := "set") (b:=true) hT (by rw[isSubtype_type];kernel_rfl) ?_);refine wpAny_ite_split (fun hab=>absurd hab (by decide)) (fun _=>?_);refine wpAny_ite_split (fun _=>?_) (fun hab=>absurd (by decide +kernel) hab);refine wpAny_bind (wpAny_typeOf hT ?_);exact wpAny_pure h
theorem zqK {Q:Value->Shared->Prop}(S:At s.heap a (ledOf w) ep es ks)
  (hQ:Q (.ref s.heap.objs.size) { s with heap:=s.heap.push { cls:=.type "set_iterator",data:=.fields #[.int (0:Nat) 0,.int (0:Nat) 0,.ref a,.int (ks.length:Nat) 0,.int (ep:Nat) 0] } }) :
  wpAny (model prog w) A (pyIter (.ref a)) Q E s:=by
 have hT:=S.typeIs;refine wpAny_pyIter_slot hT F.slot_set_iter (wpAny_call_entry F.slot_set_iter hT zgW ?_ (F.args_set_iter_1 _));unfold Builtin.«frozenset.__iter__» Builtin.Frozenset.slot0 slotArgs;simp only[List.isEmpty_nil,Bool.not_true,Bool.false_eq_true,↓reduceIte,bind_assoc,List.length_nil,bne_self_eq_false];unfold Builtin.Frozenset.addrOf Builtin.Frozenset.sizeOf setDrawn setsByText setEpoch;refine wpAny_bind (wpAny_pure ?_)
 try dsimp only
 refine wpAny_bind (wpAny_pure ?_);refine wpAny_bind (wpAny_bind (wpAny_setEntries_of S.get rfl S.fits (wpAny_pure ?_)));refine wpAny_bind ?_;refine wpAny_bind (wpAny_setState_of S.get rfl S.fits ?_);dsimp only;refine wpAny_bind (wpAny_bind (wpAny_askSetting (wpAny_pure ?_)));refine wpAny_pure ?_;refine wpAny_ite_split (fun hab=>absurd hab ?_) (fun _=>?_)
 ·intro z;exact Bool.noConfusion (show false=true from((Bool.and_eq_true_iff.mp z).2))
 refine wpAny_bind (wpAny_pure ?_);refine wpAny_bind (wpAny_bind (wpAny_setState_of S.get rfl S.fits (wpAny_pure ?_)));refine wpAny_bind (wpAny_newObj_type (wpAny_pure ⟨_,rfl, "set_iterator",_,⟨_,Heap.get?_push_size _ rfl,rfl⟩,slot_next.lookup,?_⟩));rw[S.size];exact hQ
theorem zkN {i sl:Nat}{Q:Option (Value×Nat)->Shared->Prop}(S:At s.heap a (ledOf w) ep es ks) (hb:ledOf w=true->SetTable.below ks.toArray sl=i)
  (hs:∀x nx,(walk w a ep es)[i]?=some x->(ledOf w=true->SetTable.below ks.toArray nx=i+1)->Q (some (x.2,nx)) s) (hn:(walk w a ep es)[i]?=none->Q none s) :
  wpAny (model prog w) A (setNext a sl i ep) Q E s:=by
 unfold setNext setsByText;refine wpAny_bind (wpAny_setState_of S.get rfl S.fits ?_);dsimp only;refine wpAny_bind (wpAny_bind (wpAny_askSetting (wpAny_pure ?_)));cases hw:w.params.followText "set-order" with
 |true =>
  have hl:ledOf w=false:=by unfold ledOf;rw[hw];rfl
  rw[if_pos (show(model prog w).w.params.followText "set-order" = true from hw)];simp only[bne_self_eq_false,Bool.false_eq_true,↓reduceIte];refine wpAny_bind ?_;unfold setWalk setsByText;refine wpAny_bind (wpAny_setState_of S.get rfl S.fits ?_);dsimp only;refine wpAny_bind (wpAny_bind (wpAny_askSetting (wpAny_pure ?_)));rw[if_pos (show(model prog w).w.params.followText "set-order" = true from hw)];refine wpAny_bind (wpAny_askSetting (wpAny_pure (wpAny_pure ?_)));have e:pickOrder (w.params.setOrder a ep) es=walk w a ep es:=by unfold walk;rw[hl];rfl
  show Q (Option.map _ (pickOrder (w.params.setOrder a ep) es)[i]?) s;rw[e];cases hx:(walk w a ep es)[i]? with
  |none=>exact hn hx
  |some x=>exact hs x sl hx fun z=>by rw[hl] at z;exact Bool.noConfusion z
 |false =>
  have hl:ledOf w=true:=by unfold ledOf;rw[hw];rfl
  rw[if_neg (show ¬((model prog w).w.params.followText "set-order" = true) from fun z=>by
   have z':w.params.followText "set-order" = true:=z;rw[hw] at z';exact Bool.noConfusion z')]
  refine wpAny_ite_split (fun hab=>absurd hab ?_) (fun _=>?_)
  ·intro z;exact Bool.noConfusion (show false=true from z)
  refine wpAny_bind ?_;refine wpAny_ite_split (fun hab=>absurd hab ?_) (fun _=>?_)
  ·intro z;have z2:((!ledOf w)&&!es.isEmpty)=true:=z;rw[hl] at z2;exact Bool.noConfusion (show false=true from z2)
  refine wpAny_pure (wpAny_pure ?_);have e:walk w a ep es=es:=by unfold walk;rw[hl];rfl
  have eb:=hb hl;show Q (match es[SetTable.below ks.toArray sl]?,ks.toArray[SetTable.below ks.toArray sl]? with|some (_,x),some j=>some (x,j+1)|_,_=>none) s;rw[eb];rcases Nat.lt_or_ge i ks.length with h|h
  ·have h1:es[i]?=some (es[i]'(by rw[S.size];exact h)):=Array.getElem?_eq_getElem _;have h2:ks.toArray[i]?=some (ks[i]):=by simp[h]
   rw[h1,h2];dsimp only;refine hs (es[i]'(by rw[S.size];exact h)) (ks[i]+1) (by rw[e];exact h1) fun _=>?_;exact znY ks S.sub i (List.mem_range.mpr (by have:=subs_len _ S.sub;omega)) _ (List.getElem?_eq_getElem h)
  ·have h1:es[i]?=none:=Array.getElem?_eq_none (by rw[S.size];exact h);rw[h1];exact hn (by rw[e];exact h1)
theorem zpC {i:Nat}{x:Int×Value}{Q:Option Value->Shared->Prop}(S:At s.heap a (ledOf w) ep es ks) (I:ItAt s.heap it a (ledOf w) i ks.length ep ks) (hx:(walk w a ep es)[i]?=some x)
  (hQ:∀h',ItAt h' it a (ledOf w) (i+1) ks.length ep ks->Heap.SameBut it s.heap h'->Q (some x.2) { s with heap:=h' }) :
  wpAny (model prog w) A (pyNext (.ref it)) Q E s:=by
 obtain⟨sl,ho,hb⟩:=id I;have hT:s.TypeIs (.ref it) "set_iterator" := ⟨_,ho,rfl⟩;have hlt:i<ks.length:=by
  have h1:i<(walk w a ep es).size:=by
   rcases Nat.lt_or_ge i (walk w a ep es).size with h|h
   ·exact h
   ·simp[Array.getElem?_eq_none h] at hx
  rw[walk_size,S.size] at h1;exact h1
 unfold pyNext;refine wpAny_bind (wpAny_attempt (wpAny_callSpecial?_slot (name:=Str.ofString "__next__") hT slot_next
  (wpAny_call_entry slot_next hT zic ?_ (zja _))))
 unfold Builtin.«set_iterator.__next__» slotArgs;simp only[List.isEmpty_nil,Bool.not_true,Bool.false_eq_true,↓reduceIte,bind_assoc,List.length_nil,bne_self_eq_false];refine wpAny_bind (wpAny_pure ?_);refine wpAny_bind (wpAny_fieldsOf ho rfl ?_);dsimp only;refine wpAny_bind (wpAny_setEntries_of S.get rfl S.fits ?_);rw[S.size];simp only[bne_self_eq_false,Bool.false_eq_true,↓reduceIte,Int.toNat_natCast];refine wpAny_bind (zkN S hb (fun x' nx hx' hnx=>?_) fun z=>?_)
 ·rw[hx] at hx';cases hx';dsimp only;refine wpAny_bind (wpAny_setField ho rfl (by simp) ?_);have q1:=Heap.get?_update_self (Obj.mapFields (·.setIfInBounds 0 (rawInt (nx:Nat)))) ho rfl;refine wpAny_bind (wpAny_setField q1 rfl (by simp) ?_);have q2:=Heap.get?_update_self (Obj.mapFields (·.setIfInBounds 1 (rawInt ((i:Int)+1)))) q1 rfl;refine wpAny_pure ⟨_,rfl,wpAny_pure (hQ _ ⟨nx,?_,hnx⟩ ((Heap.SameBut.update ..).trans (Heap.SameBut.update ..)))⟩;exact q2
 ·rw[hx] at z;cases z
theorem zqL {i:Nat}{Q:Option Value->Shared->Prop}(hh:A.handled=none) (S:At s.heap a (ledOf w) ep es ks) (I:ItAt s.heap it a (ledOf w) i ks.length ep ks) (hx:(walk w a ep es)[i]?=none)
  (hQ:∀h',Heap.ExtBut it s.heap h'->Q none { s with heap:=h' }) :
  wpAny (model prog w) A (pyNext (.ref it)) Q E s:=by
 obtain⟨sl,ho,hb⟩:=id I;have hT:s.TypeIs (.ref it) "set_iterator" := ⟨_,ho,rfl⟩;unfold pyNext;refine wpAny_bind (wpAny_attempt (wpAny_callSpecial?_slot (name:=Str.ofString "__next__") hT slot_next
  (wpAny_call_entry slot_next hT zic ?_ (zja _))))
 unfold Builtin.«set_iterator.__next__» slotArgs;simp only[List.isEmpty_nil,Bool.not_true,Bool.false_eq_true,↓reduceIte,bind_assoc,List.length_nil,bne_self_eq_false];refine wpAny_bind (wpAny_pure ?_);refine wpAny_bind (wpAny_fieldsOf ho rfl ?_);dsimp only;refine wpAny_bind (wpAny_setEntries_of S.get rfl S.fits ?_);rw[S.size];simp only[bne_self_eq_false,Bool.false_eq_true,↓reduceIte,Int.toNat_natCast];refine wpAny_bind (zkN S hb (fun x' nx hx' hnx=>?_) fun z=>?_)
 ·rw[hx] at hx';cases hx'
 ·dsimp only;refine wpAny_bind (wpAny_setField ho rfl (by simp) ?_);show wpAny _ _ (newExc (.type "StopIteration") [] >>= _) _ _ _;refine wpAny_bind ?_;simp only[newExc,newTuple];refine wpAny_bind (wpAny_newObj_type ?_ (by size_fits));refine wpAny_bind (m:=firstArgMember _ _) (wpAny_of_eq (a:=Value.none) (by first|rfl|(simp only[firstArgMember];rfl)) ?_);refine wpAny_newObj_type ?_ (by size_fits);simp only[raiseNew];refine wpAny_bind (wpAny_handled ?_);rw[show A.in1.handled=none from hh];refine wpAny_bind (wpAny_pure (wpAny_throw ?_));refine wpAny_bind (wpAny_isInstance (T := "StopIteration") (b:=true) ⟨_,Heap.get?_push_size _ rfl,rfl⟩ isSubtype_stop ?_);exact wpAny_pure (hQ _ (((Heap.SameBut.update ..).extBut.push _).push _))
theorem zqV (hh:A.handled=none) (it a:Addr) (hne:a≠it) (ep:Nat) (es:Array (Int×Value)) (ks:List Nat) :
  Walks prog w A it [it,a] [it] ks.length (fun i v=>∃x,(walk w a ep es)[i]?=some x/\x.2=v) (fun i h=>ItAt h it a (ledOf w) i ks.length ep ks/\At h a (ledOf w) ep es ks) where
 sub:=fun b hb=>by simp at hb;simp[hb]
 frame:=fun _ _ _ st hk=>⟨st.1.mv fun o e=>hk it (by simp) o e,st.2.mv fun o e=>hk a (by simp) o e⟩
 item:=fun i s Q E hi st hQ=>by
  have h1:i<(walk w a ep es).size:=by rw[walk_size,st.2.size];exact hi
  have hx:(walk w a ep es)[i]?=some (walk w a ep es)[i]:=Array.getElem?_eq_getElem _;refine zpC st.2 st.1 hx fun h' hit' hs'=>?_;exact hQ _ h' s.toks ⟨_,hx,rfl⟩ ⟨hit',st.2.mv fun o e=>hs'.extBut a o hne e⟩ fun b o hb e=>hs'.extBut b o (fun h=>hb (by simp[h])) e
 done:=fun s Q E st hQ=>zqL hh st.2 st.1 (Array.getElem?_eq_none (by rw[walk_size,st.2.size];exact Nat.le_refl _)) fun h' he'=>hQ h' s.toks fun b o hb e=>he' b o (fun h=>hb (by simp[h])) e
 self:=fun i s Q E st hQ=>by
  obtain⟨sl,ho,hb⟩:=id st.1;have hT:s.TypeIs (.ref it) "set_iterator" := ⟨_,ho,rfl⟩;refine wpAny_pyIter_slot hT zji (wpAny_call_entry zji hT zl7 ?_ (zmO _));show wpAny _ _ (ret (.ref it)) _ _ s;exact wpAny_pure ⟨_,rfl, "set_iterator",_,hT,slot_next.lookup,hQ⟩
theorem src (a:Addr) (ep:Nat) (es:Array (Int×Value)) (ks:List Nat):PySem.W.KdlSrc prog w "set" a a ks.length (fun i v=>∃x,(walk w a ep es)[i]?=some x/\x.2=v) (fun h=>At h a (ledOf w) ep es ks) where
 type:=fun s hm=>⟨_,hm.get,rfl⟩
 there:=fun _ hm=>⟨hm.lt,hm.lt⟩
 keep:=fun _ _ hm hk=>hm.mv fun o e=>hk a (.inl rfl) o e
 notList:=by decide
 notTuple:=by decide
 hint:=fun _ _ s _ hm hq=>hint ⟨_,hm.get,rfl⟩ hq
 iter:=fun _ s hh hm=>⟨_,_,(fun _ _ hq=>zqK hm hq),zqV hh _ a (Nat.ne_of_lt hm.lt) ep es ks,⟨⟨0,Heap.get?_push_size _ rfl,fun _=>zpm _ hm.sub⟩,hm.mv fun o e=>Heap.get?_push_of_some _ e⟩⟩
end
end Sm
namespace L2
open PySem PySem.Spec PyProof.Rows
section
variable {X:Cx}
def zpJ (K:PySem.W.Frag):V->List V->Hp->VK->Prop:=fun x xs H Q=>∃(a:Addr) (ns:List Int) (k:Int),x=V.ref a/\xs=[.int k]/\SqL K H a (ns.map V.int)/\Q (.int (ns.count k:Nat)) H
theorem zm8:MtR X "list.count" (zpJ X.K):=by
 intro pins s σ H x xs v us Q I rx rxs h;obtain⟨a,ns,k,rfl,rfl,hs,q⟩:=h;cases rx;cases rxs with
 |cons ry rt =>
  cases rt;obtain⟨t,rfl⟩:=ry;obtain⟨its,rv,hl,_⟩:=I.list hs;exact count_list_ints hl.isList rv.ints ⟨.int _,H,I.kept (t':=s.toks+1) fun _ _ e=>e,⟨_,rfl⟩,q⟩
def tLR (ta:TA):TE:=fun σ H Q=>ta σ H fun vs H1=>∃n:Nat,vs=[.int n]/\n<1000/\∀p,H1 p=none->Q (.ref p) (upd H1 p (.lst ((List.range n).map fun i=>V.int (i:Nat))))
theorem zke {a:Expr}{ta:TA}{p1 p2 q1 q2:Pos}(hc:X.calm=true) (hg:Gl X "range") (hm:X.mg "range" = none) (hgl:Gl X "list") (hml:X.mg "list" = none) (ha:PA X [a] ta)
  (hs:starEach [a] X.env=[(false,eval a X.env)]:=by rfl) (hs2:starEach [Expr.Call (.Name "range" p1) [a] [] q1] X.env=[(false,eval (Expr.Call (.Name "range" p1) [a] [] q1) X.env)]:=by rfl) :
  PE X (.Call (.Name "list" p2) [.Call (.Name "range" p1) [a] [] q1] [] q2) (tLR ta):=by
 intro pins s σ H Q I h;refine wpAny_Call_Name_kw (zd2 I hgl hml (u:=.type "list") (by rfl) ?_);refine PyProof.Rows.callWith_type1 ?_ hs2 rfl;rw[hs2];refine Calls.spliced_cons ?_;refine Call_ (zd2 I hg hm boot_range (PyProof.Rows.callWith_type1 (thn (ha q1 pins s σ H _ I h) fun us s1 ⟨vs,H1,I1,r1,h1⟩=>?_) hs rfl));obtain⟨n,e,hn,q⟩:=h1;subst e;cases r1 with
 |cons r rr =>
  cases rr;obtain⟨t,rfl⟩:=r;refine call_range_1 (Calls.spliced_nil ?_);have e2:Builtin.Range.rangeSize 0 ((n:Nat):Int) 1=n:=by rw[rangeSize_one];split <;> omega
  refine PySem.call_list_range (I1.ok.hd hc) (IsRange.new ..) (small_one (by omega) (by omega) (by omega) (by omega)) e2 (by omega) fun h' tk acc' c' hk hS' hacc=>?_;have I2:Inv X pins σ H1 { s1 with heap:=s1.heap.push { cls:=.type "range",data:=.fields #[.int 0 s1.toks,.int (n:Nat) t,.int 1 (s1.toks+1)] },toks:=s1.toks+1+1 }:=I1.kept fun b o e=>Heap.get?_push_of_some _ e;have vals:Vals ((List.range n).map fun i=>V.int (i:Nat)) acc'.toList:=by
   have aux:∀(l:List Nat) (us:List Value),l.length=us.length->(∀j (h1:j<l.length) (h2:j<us.length),∃t,us[j]=Value.int (l[j]:Nat) t)->Vals (l.map fun i=>V.int (i:Nat)) us:=by
    intro l
    induction l with
    |nil=>intro us e _;cases us with
     |nil=>exact .nil
     |cons _ _=>simp at e
    |cons x l ih =>
     intro us e h;cases us with
     |nil=>simp at e
     |cons u us =>
      refine .cons ?_ (ih us (by simpa using e) fun j h1 h2=>?_)
      ·obtain⟨t,e⟩:=h 0 (by simp) (by simp);exact⟨t,by simpa using e⟩
      ·obtain⟨t,e⟩:=h (j+1) (by simpa using h1) (by simpa using h2);exact⟨t,by simpa using e⟩
   refine aux _ _ (by simp[hacc.1]) fun j h1 h2=>?_;obtain⟨t,e⟩:=hacc.2 j acc'.toList[j] (by rw[<-Array.getElem?_toList];exact List.getElem?_eq_getElem h2);refine⟨t,?_⟩;rw[e];simp
  refine⟨.ref _,upd H1 _ (.lst _),I2.laid (t':=tk) hk (Nat.le_refl _) ⟨?_,acc'.toList,c',vals,?_⟩,rfl,q _ (I2.hok.fresh (Nat.le_refl _))⟩
  ·rw[List.length_map,List.length_range,sizeLine_eq];omega
  ·exact hS'
def zqI (X:Cx) (id:String) (r:List Nat->Hp->VK->Prop):Prop :=
 ∀(pins:List (Addr×Obj)) (s:Shared) (σ:St) (H:Hp) (Q:VK) (a:Addr) (ep:Nat) (es:Array (Int×Value)) (ks:List Nat),Inv X pins σ H s->Sm.At s.heap a (Sm.ledOf X.w) ep es ks->r ks H Q ->
  wpAny (model X.prog X.w) X.A (call (.builtin id) [.ref a]) (EP X pins σ Q) X.xe s
def zrf (K:PySem.W.Frag) (r:List Nat->Hp->VK->Prop) (te:TA):TE:=fun σ H Q=>te σ H fun vs H1=>∃(a:Addr) (ns:List Nat),vs=[.ref a]/\SqL K H1 a (ns.map fun i=>V.int (i:Nat))/\(∀n∈ns,n<4)/\r ((List.range 4).filter fun k=>ns.contains k) H1 Q
theorem zkJ {a:Expr}{ta:TA}{x:Str}{id:String}{r:List Nat->Hp->VK->Prop}{p1 p2 q1 q2:Pos}(hc:X.calm=true) (hr:zqI X id r) (hg:Gl X "set") (hm:X.mg "set" = none) (hgl:Gl X x) (hml:X.mg x=none) (hv:bootBuiltins x=some (.builtin id)) (ha:PA X [a] ta)
  (hn:x ≠ "__name__" := by decide) (hdb:(x == ("__debug__" : Str))=false:=by decide)
  (hs:starEach [a] X.env=[(false,eval a X.env)]:=by rfl) (hs2:starEach [Expr.Call (.Name "set" p1) [a] [] q1] X.env=[(false,eval (Expr.Call (.Name "set" p1) [a] [] q1) X.env)]:=by rfl) :
  PE X (.Call (.Name x p2) [.Call (.Name "set" p1) [a] [] q1] [] q2) (zrf X.K r ta):=by
 intro pins s σ H Q I h;refine wpAny_Call_Name_kw (zd2 I hgl hml hv ?_ hn hdb);refine PyProof.Rows.callWith_builtin1 ?_ hs2 rfl;rw[hs2];refine Calls.spliced_cons ?_;refine wpAny_Call_Name_kw (zd2 I hg hm (u:=.type "set") (by rfl) (PyProof.Rows.callWith_type1 (thn (ha q1 pins s σ H _ I h) fun us s1 ⟨vs,H1,I1,r1,h1⟩=>?_) hs rfl));obtain⟨p,ns,rfl,hsq,hlt,q⟩:=h1;rw[Vals.ref1 r1];obtain⟨its,rv,hl,_⟩:=I1.list hsq;have hlen:its.length=ns.length:=by have:=rv.length;simpa using this.symm
 refine Sm.set_list (val:=fun i=>ns.getD i 0) (I1.ok.hd hc) hl.isList (fun i v hi=>?_) (fun i=>?_) fun h' tk ep es S hk=>?_
 ·have hi':its[i]?=some v:=by simpa using hi
  have hil:i<its.length:=(List.getElem?_eq_some_iff.mp hi').1;have e1:(ns.map fun i=>V.int (i:Nat))[i]?=some (V.int (ns[i]'(by omega):Nat)):=by rw[List.getElem?_map,List.getElem?_eq_getElem (by omega)];rfl
  obtain⟨u,hu',ru⟩:=rv.get e1;rw[hi'] at hu';cases hu';obtain⟨t,rfl⟩:=ru;refine⟨t,?_⟩;rw[List.getD_eq_getElem?_getD,List.getElem?_eq_getElem (by omega)];rfl
 ·rw[List.getD_eq_getElem?_getD];cases e:ns[i]? with
  |none=>simp
  |some n=>exact hlt n (List.mem_of_getElem? e)
 ·refine Calls.spliced_nil ?_;have e:Sm.allOf (fun i=>ns.getD i 0) its.toArray.size=(List.range 4).filter fun k=>ns.contains k:=by
   rw[Sm.allOf_eq];have:(List.range its.toArray.size).map (fun i=>ns.getD i 0)=ns:=by
    rw[List.size_toArray,hlen];apply List.ext_getElem (by simp);intro i h1 h2;simp[List.getElem?_eq_getElem h2]
   rw[this]
  rw[e] at S;refine hr pins _ σ H1 Q _ ep es _ (I1.kept (t':=tk) fun b o e=>hk b o (Heap.lt_size e) e) S q
theorem zqt:zqI X "len" (fun ks H Q=>Q (.int (ks.length:Nat)) H):=by
 intro pins s σ H Q a ep es ks I S h;have hz:=S.size;have hl:=Sm.subs_len _ S.sub;refine call_len_set S.get ⟨rfl,rfl,rfl⟩ rfl S.fits (by omega) ⟨.int _,H,I.kept (t':=s.toks+1+1) fun _ _ e=>e,⟨_,rfl⟩,?_⟩;rw[hz];exact h
theorem zm3 (hc:X.calm=true):zqI X "sorted" (fun ks H Q=>∀p,H p=none->Q (.ref p) (upd H p (.lst (ks.map fun i=>V.int (i:Nat))))):=by
 intro pins s σ H Q a ep es ks I S h;have hz:=S.size;have hl:=Sm.subs_len _ S.sub;refine Calls.call_function_entry kind_sorted plain_sorted entry_sorted (args_sorted1 _) ?_;unfold Builtin.«sorted»;refine wpAny_bind (m:=checkCount "sorted" 1 1 _) (wpAny_pure ?_);refine wpAny_bind (PySem.W.kdu_collect (A:=X.A.in1) (Sm.src a ep es ks) (I.ok.hd hc) S (by rw[sizeLine_eq];omega) fun h' tk acc hk hacc=>?_);have hlen:acc.toList.length=ks.length:=by rw[Array.length_toList];exact hacc.1
 refine wpAny_bind (wpAny_newList ?_ (by rw[hlen,sizeLine_eq];omega));have ex:acc.toList=(Sm.walk X.w a ep es).toList.map Prod.snd:=by
  apply List.ext_getElem
  ·have:=Sm.walk_size X.w a ep es;simp only[List.length_map,Array.length_toList] at hlen ⊢;omega
  ·intro i h1 h2;obtain⟨x,e1,e2⟩:=hacc.2 i acc.toList[i] (by rw[<-Array.getElem?_toList];exact List.getElem?_eq_getElem h1);rw[<-e2,List.getElem_map];rw[<-Array.getElem?_toList] at e1;obtain⟨_,e3⟩:=List.getElem?_eq_some_iff.mp e1;rw[e3]
 have hI:IntsAre acc.toList ((Sm.walk X.w a ep es).toList.map Prod.fst):=by
  rw[ex];have aux:∀l:List (Int×Value),(∀e∈l,∃t,e.2=.int e.1 t)->IntsAre (l.map Prod.snd) (l.map Prod.fst):=by
   intro l
   induction l with
   |nil=>intro _;exact .nil
   |cons x l ih =>
    intro h;obtain⟨t,e⟩:=h x (by simp);rw[List.map_cons,List.map_cons,e];exact .cons _ _ (ih fun e he=>h e (by simp[he]))
  exact aux _ fun e he=>S.snd e ((Sm.walk_perm X.w a ep es).mem_iff.mp he)
 have hoL:(h'.push (seqObj "list" acc.toList.toArray 0)).get? h'.objs.size=some (seqObj "list" acc.toList.toArray 0):=Heap.get?_push_size _ rfl;refine wpAny_bind (wpAny_holding (wpAny_call_entry slot_list_sort ⟨_,hoL,rfl⟩ entry_list_sort (list_sort_tree hoL hI (by omega) fun out ns' a1 a2 a3=>⟨_,rfl,?_⟩) (args_list_sort _)));refine wpAny_pure ⟨_,rfl,?_⟩;have eq:ns'=ks.map Int.ofNat:=by
  refine List.Perm.eq_of_pairwise (le:=(·<=·)) (fun a b _ _ h1 h2=>Int.le_antisymm h1 h2) a3 ?_ ?_
  ·have z:∀ks∈Sm.subs,(ks.map Int.ofNat).Pairwise (·<=·):=by decide
   exact z ks S.sub
  ·refine a2.trans (((Sm.walk_perm X.w a ep es).map Prod.fst).trans ?_);rw[S.fst]
 obtain⟨ep',he'⟩:=PyProof.Rows.sortedHeap_at (vs:=acc.toList) (out:=out) hoL;have I1:Inv X pins σ H { s with heap:=h',toks:=tk }:=I.kept hk;have hlt:∀b u,h'.get? b=some u->(sortedHeap (h'.push (seqObj "list" acc.toList.toArray 0)) h'.objs.size acc.toList out).get? b=some u:=fun b u e=>by
  have hb:=Heap.lt_size e;have e2:(h'.push (seqObj "list" acc.toList.toArray 0)).get? b=some u:=Heap.get?_push_of_some _ e;rw[PyProof.Rows.sortedHeap_old (Nat.ne_of_lt hb) (Heap.lt_size e2)];exact e2
 refine⟨.ref _,upd H _ (.lst _),I1.laid (t':=tk) hlt (Nat.le_refl _) ⟨?_,out.toList,ep',?_,he'⟩,rfl,h _ (I1.hok.fresh (Nat.le_refl _))⟩
 ·rw[List.length_map,sizeLine_eq];omega
 ·have v:=zcQ a1;rw[eq,List.map_map] at v;exact v
end
end L2
namespace Wp
open Bd
def zak (k:Corner):Corner:=⟨k.a,0,k.c,0⟩
theorem zaO (l:List Corner):∀n i,leastOf (l.map zak) n i=leastOf l n i
 |0,i=>rfl
 |n+1,i=>by
  show((l.map zak).map fun k=>if k.a=i\/k.c=i then min (leastOf (l.map zak) n k.a) (leastOf (l.map zak) n k.c) else i).foldl min i=(l.map fun k=>if k.a=i\/k.c=i then min (leastOf l n k.a) (leastOf l n k.c) else i).foldl min i;rw[List.map_map];congr 1;refine List.map_congr_left fun k _=>?_;show(if k.a=i\/k.c=i then min (leastOf (l.map zak) n k.a) (leastOf (l.map zak) n k.c) else i)=_;rw[zaO l n,zaO l n]
def joinP (ps:List Nat) (k:Corner):List Nat:=ps.map fun p=>if p=ps.getD k.c 0 then ps.getD k.a 0 else p
def partsP (n:Nat) (l:List Corner):List Nat:=l.foldl joinP (List.range n)
def numP (ps:List Nat):List Nat:=(List.range 4).filter fun v=>ps.contains v
def ringP (ps:List Nat) (l:List Corner) (v:Nat):Bool:=(l.filter fun k=>ps.getD k.a 0 == v).length == (ps.filter fun p=>p == v).length
theorem zkX (n:Nat) (l:List Corner):partsP n (l.map zak)=partsP n l:=by
 unfold partsP;rw[List.foldl_map];rfl
def partsA (n:Nat) (l:List Corner):List Nat:=(List.range n).filter fun i=>leastOf l n i == i
def ringsA (n:Nat) (l:List Corner):List Nat:=(partsA n l).filter fun i=>((List.range n).filter fun j=>leastOf l n j == i).length == (l.filter fun k=>leastOf l n k.a == i).length
def fits (n:Nat) (l:List Corner):Bool:=(partsA n l).length == (numP (partsP n l)).length&&(ringsA n l).length == ((numP (partsP n l)).filter (ringP (partsP n l) l)).length&&(partsP n l).all fun p=>decide (p<4)
def zoE (n:Nat):List Corner:=(List.range n).flatMap fun c=>(List.range c).map fun a=>⟨a,0,c,0⟩
def zk6 (l:List Corner):List Nat:=l.flatMap fun k=>[k.a,k.c]
def zgm (l:List Corner):Bool:=(List.range 4).all fun i=>decide ((zk6 l).count i<=2)
def zoc (n:Nat):Nat->List (List Corner)
 |0=>[[]]
 |k+1=>[]::(zoE n).flatMap fun p=>((zoc n k).map fun l=>p::l).filter zgm
theorem zpR:∀n,n<=4->((zoc n n).all fun l=>fits n l)=true:=by
 intro n h;have:n=0\/n=1\/n=2\/n=3\/n=4:=by omega
 rcases this with rfl|rfl|rfl|rfl|rfl <;> decide +kernel
theorem zlB {p:Corner}{l:List Corner}(h:zgm (p::l)=true):zgm l=true:=by
 unfold zgm at h ⊢;rw[List.all_eq_true] at h ⊢;intro i hi;have z:=of_decide_eq_true (h i hi);refine decide_eq_true ?_;have e:zk6 (p::l)=[p.a,p.c]++zk6 l:=rfl;rw[e,List.count_append] at z;omega
theorem zmG {n:Nat}:∀{k:Nat}{l:List Corner},l.length<=k->(∀p∈l,p∈zoE n)->zgm l=true->l∈zoc n k
 |0,l,h,_,_=>by
  have e:l=[]:=List.length_eq_zero_iff.mp (by omega);rw[e];exact List.mem_singleton.mpr rfl
 |k+1,[],_,_,_=>List.mem_cons_self ..
 |k+1,p::l,h,hp,hv=>by
  refine List.mem_cons_of_mem _ (List.mem_flatMap.mpr ⟨p,hp p (by simp),List.mem_filter.mpr ⟨List.mem_map.mpr ⟨l,zmG (by simpa using h) (fun q hq=>hp q (by simp[hq])) (zlB hv),rfl⟩,hv⟩⟩)
theorem zia {α:Type}[DecidableEq α]:∀{l m:List α},l.Nodup->(∀x∈l,x∈m)->l.length<=m.length
 |[],m,_,_=>Nat.zero_le _
 |a::l,m,nd,h=>by
  rw[List.nodup_cons] at nd;have ha:=h a (by simp);have z:=zia (l:=l) (m:=m.erase a) nd.2 fun x hx=>(List.mem_erase_of_ne (fun e=>nd.1 (by rw[<-e];exact hx))).mpr (h x (by simp[hx]));rw[List.length_erase_of_mem ha] at z;have:=List.length_pos_of_mem ha;rw[List.length_cons];omega
structure CornersOk (n:Nat) (l:List Corner):Prop where
 lt:∀k∈l,k.a<k.c/\k.c<n/\k.ea<=1/\k.ec<=1
 one:l.Pairwise fun m k=>m.uses k.a k.ea=false/\m.uses k.c k.ec=false
def zh6 (l:List Corner):List (Nat×Nat):=l.flatMap fun k=>[(k.a,k.ea),(k.c,k.ec)]
theorem zmi {m:Corner}{w e:Nat}(h:m.uses w e=false):(w,e)≠(m.a,m.ea)/\(w,e)≠(m.c,m.ec):=by
 unfold Corner.uses at h;rw[Bool.or_eq_false_iff] at h;constructor
 ·intro q;obtain⟨rfl,rfl⟩:=Prod.mk.inj q;simp at h
 ·intro q;obtain⟨rfl,rfl⟩:=Prod.mk.inj q;simp at h
theorem zg7:∀{n:Nat}{l:List Corner},CornersOk n l->(zh6 l).Nodup:=by
 intro n l h;unfold zh6;rw[List.nodup_iff_pairwise_ne,List.pairwise_flatMap];refine⟨fun k hk=>?_,h.one.imp fun{m k} q x hx y hy e=>?_⟩
 ·have:=(h.lt k hk).1;refine List.pairwise_cons.mpr ⟨fun y hy=>?_,List.pairwise_singleton _ _⟩;rw[List.mem_singleton.mp hy];intro e;have:=(Prod.mk.inj e).1;omega
 ·obtain⟨a1,a2⟩:=zmi q.1;obtain⟨b1,b2⟩:=zmi q.2;rw[List.mem_cons,List.mem_singleton] at hx hy;rcases hx with rfl|rfl <;> rcases hy with rfl|rfl
  ·exact a1 e.symm
  ·exact b1 e.symm
  ·exact a2 e.symm
  ·exact b2 e.symm
theorem znJ (l:List Corner):(zh6 l).map Prod.fst=zk6 l:=by
 unfold zh6 zk6;rw[List.map_flatMap];rfl
theorem zkO {l:List Corner}{x:Nat×Nat}(h:x∈zh6 l):∃k∈l,x=(k.a,k.ea)\/x=(k.c,k.ec):=by
 obtain⟨k,hk,hx⟩:=List.mem_flatMap.mp h;rw[List.mem_cons,List.mem_singleton] at hx;exact⟨k,hk,hx⟩
theorem zjh (i:Nat):∀m:List (Nat×Nat),(m.map Prod.fst).count i=(m.filter fun x=>x.1 == i).length
 |[]=>rfl
 |x::m=>by
  rw[List.map_cons,List.count_cons,zjh i m,List.filter_cons];by_cases c:(x.1 == i)=true
  ·rw[if_pos c,if_pos c,List.length_cons]
  ·rw[if_neg c,if_neg c,Nat.add_zero]
theorem zoi {n:Nat}{l:List Corner}(h:CornersOk n l):zgm l=true:=by
 unfold zgm;rw[List.all_eq_true];intro i _;refine decide_eq_true ?_;rw[<-znJ,zjh];refine zia (m:=[(i,0),(i,1)]) (List.Pairwise.filter _ (zg7 h)) fun x hx=>?_;obtain⟨h1,h2⟩:=List.mem_filter.mp hx;have e1:x.1=i:=by simpa using h2
 obtain⟨k,hk,e⟩:=zkO h1;have g:=h.lt k hk;have e2:x.2=0\/x.2=1:=by
  rcases e with rfl|rfl
  ·show k.ea=0\/k.ea=1;omega
  ·show k.ec=0\/k.ec=1;omega
 obtain⟨u,v⟩:=x;dsimp only at e1 e2;subst e1;rcases e2 with rfl|rfl <;> simp
theorem ok_len {n:Nat}{l:List Corner}(h:CornersOk n l):l.length<=n:=by
 have z:=zia (m:=(List.range n).flatMap fun i=>[(i,0),(i,1)]) (zg7 h) fun x hx=>by
  obtain⟨k,hk,e⟩:=zkO hx;have g:=h.lt k hk;have e2:x.1<n/\(x.2=0\/x.2=1):=by
   rcases e with rfl|rfl
   ·exact⟨by show k.a<n;omega,by show k.ea=0\/k.ea=1;omega⟩
   ·exact⟨by show k.c<n;omega,by show k.ec=0\/k.ec=1;omega⟩
  refine List.mem_flatMap.mpr ⟨x.1,List.mem_range.mpr e2.1,?_⟩;obtain⟨u,v⟩:=x;dsimp only at e2 ⊢;rcases e2.2 with rfl|rfl <;> simp
 have l1:∀m:List Corner,(zh6 m).length=2*m.length:=fun m=>by
  induction m with
  |nil=>rfl
  |cons k m ih =>
   show([(k.a,k.ea),(k.c,k.ec)]++zh6 m).length=_;rw[List.length_append,ih,List.length_cons];simp;omega
 have l2:∀m,((List.range m).flatMap fun i=>[(i,0),(i,1)]).length=2*m:=fun m=>by
  induction m with
  |zero=>rfl
  |succ m ih =>
   rw[List.range_succ,List.flatMap_append,List.length_append,ih];simp;omega
 rw[l1,l2] at z;omega
theorem zfx (l:List Corner) (f:Corner->Bool) (h:∀k,f (zak k)=f k):((l.map zak).filter f).length=(l.filter f).length:=by
 induction l with
 |nil=>rfl
 |cons k l ih =>
  rw[List.map_cons,List.filter_cons,List.filter_cons,h k];by_cases c:f k=true
  ·rw[if_pos c,if_pos c,List.length_cons,List.length_cons,ih]
  ·rw[if_neg c,if_neg c,ih]
theorem fits_of {n:Nat}{l:List Corner}(hn:n<=4) (h:CornersOk n l):(partsA n l).length=(numP (partsP n l)).length/\(ringsA n l).length=((numP (partsP n l)).filter (ringP (partsP n l) l)).length/\∀p∈partsP n l,p<4:=by
 have m:l.map zak∈zoc n n:=by
  refine zmG (by rw[List.length_map];exact ok_len h) (fun p hp=>?_) ?_
  ·obtain⟨k,hk,rfl⟩:=List.mem_map.mp hp;have g:=h.lt k hk;exact List.mem_flatMap.mpr ⟨k.c,List.mem_range.mpr g.2.1,List.mem_map.mpr ⟨k.a,List.mem_range.mpr g.1,rfl⟩⟩
  ·have z:=zoi h;unfold zgm at z ⊢;rw[show zk6 (l.map zak)=zk6 l by unfold zk6;rw[List.flatMap_map];rfl];exact z
 have f:=List.all_eq_true.mp (zpR n hn) _ m;unfold fits at f;rw[Bool.and_eq_true,Bool.and_eq_true,beq_iff_eq,beq_iff_eq,zkX,List.all_eq_true] at f;have ea:∀i,(leastOf (l.map zak) n i == i)=(leastOf l n i == i):=fun i=>by rw[zaO]
 have pa:partsA n (l.map zak)=partsA n l:=by
  unfold partsA;congr 1;funext i;exact ea i
 have ra:ringsA n (l.map zak)=ringsA n l:=by
  unfold ringsA;rw[pa];congr 1;funext i;rw[zfx l (fun k=>leastOf (l.map zak) n k.a == i) (fun k=>rfl)];have e1:(fun j=>leastOf (l.map zak) n j == i)=fun j=>leastOf l n j == i:=by
   funext j;rw[zaO]
  have e2:(fun k:Corner=>leastOf (l.map zak) n k.a == i)=fun k=>leastOf l n k.a == i:=by
   funext k;rw[zaO]
  rw[e1,e2]
 have rp:ringP (partsP n l) (l.map zak)=ringP (partsP n l) l:=by
  funext v;unfold ringP;rw[zfx l (fun k=>(partsP n l).getD k.a 0 == v) (fun k=>rfl)]
 rw[pa,ra,rp] at f;exact⟨f.1.1,f.1.2,fun p hp=>of_decide_eq_true (f.2 p hp)⟩
theorem zhk {L:List Bytes}{walls:List Wall}:∀{f i:Nat}{l r:List Corner},cornersAt L walls f i l=.ok r->CornersOk walls.length l->CornersOk walls.length r
 |0,i,l,r,h,g=>by
  obtain rfl:=Except.ok.inj h;exact g
 |f+1,i,l,r,h,g=>by
  unfold cornersAt at h;cases hx:L[i]? with
  |none =>
   rw[hx] at h;obtain rfl:=Except.ok.inj h;exact g
  |some x =>
   rw[hx] at h;dsimp only at h;cases hk:cornerIn walls x with
   |none=>rw[hk] at h;cases h
   |some k =>
    rw[hk] at h;dsimp only at h;by_cases c1:(l.getLast?.any fun m=>!m.before k)=true
    ·rw[if_pos c1] at h;cases h
    rw[if_neg c1] at h;by_cases c2:(l.any fun m=>m.uses k.a k.ea||m.uses k.c k.ec)=true
    ·rw[if_pos c2] at h;cases h
    rw[if_neg c2] at h;by_cases c3:cornersFit walls l k=false
    ·rw[if_pos c3] at h;cases h
    rw[if_neg c3] at h;refine zhk h ⟨fun m hm=>?_,?_⟩
    ·rcases List.mem_append.mp hm with q|q
     ·exact g.lt m q
     ·rw[List.mem_singleton.mp q];exact Wm.cornerIn_good hk
    ·rw[List.pairwise_append];refine⟨g.one,List.pairwise_singleton _ _,fun m hm y hy=>?_⟩;rw[List.mem_singleton.mp hy];have z:(m.uses k.a k.ea||m.uses k.c k.ec)=false:=by
      rw[Bool.eq_false_iff];intro q;exact c2 (List.any_eq_true.mpr ⟨m,hm,q⟩)
     exact Bool.or_eq_false_iff.mp z
theorem site_ok {t:Bytes}{s:Site}(h:judgeSite t=.ok s):CornersOk s.walls.length s.corners:=by
 unfold judgeSite at h;dsimp only at h;generalize (linesOf t).1++(if (linesOf t).2=[] then[] else[(linesOf t).2++[0]])=L at h;cases hw:wallsAt L (L.length+1) 0 [] with
 |error e=>rw[hw] at h;cases h
 |ok x =>
  rw[hw] at h;dsimp only at h;cases hc:cornersAt L x.1 (L.length+1) x.2 [] with
  |error e=>rw[hc] at h;cases h
  |ok l =>
   rw[hc] at h;obtain rfl:=Except.ok.inj h;exact zhk hc ⟨(fun k hk=>by cases hk),List.Pairwise.nil⟩
end Wp
section
set_option maxHeartbeats 1000000
namespace Wm
open Bd
structure zrL (s:SS):Prop where
 gd:SGood s
 kd:∀w∈s.1,zqA w.1
end Wm
end
namespace Wb
open PySem PySem.Spec PyProof.Rows L2 Wm
open PySem.W (Codec)
theorem zlR:bootBuiltins "all" = some (.builtin "all"):=by decide +kernel
theorem zlm:bootBuiltins "any" = some (.builtin "any"):=by decide +kernel
theorem yN:bootBuiltins "len" = some (.builtin "len"):=by decide +kernel
theorem zqy:bootBuiltins "ord" = some (.builtin "ord"):=by decide +kernel
theorem zjg:bootBuiltins "sorted" = some (.builtin "sorted"):=by decide +kernel
def top (i:Nat):Stmt:=PySem.Challenge.pw_wallbonds_s09_sizes.main.body.getD i (.Pass ⟨0,0,0,0⟩)
theorem scq {N P:List Str}{sc:Scope}(h1:sc.kind=.function:=by rfl) (h2:sc.isCoroutine=false:=by rfl) (h3:sc.isGenerator=false:=by rfl) (h4:N.Nodup:=by decide +kernel) (h5:N.take P.length=P:=by rfl) (h6:∀x∈P,sc.names.lookup x=some .local\/sc.names.lookup x=some .cell:=by decide +kernel) (h7:∀y∈sc.names,y.2≠.free:=by decide +kernel):zt N P sc:=⟨h1,h2,h3,h4,h5,h6,h7⟩
theorem bkq (N:List Str) (sc:Scope) (own:List (Str×Nat)) {scope:Scope}(h1:scope.kind=.function:=by rfl) (h2:∀y∈scope.names,scope.names.lookup y.1=some y.2:=by decide +kernel) (h3:∀p∈own,N[p.2]?=some p.1:=by decide +kernel) (h4:∀y∈scope.names,y.2=.free->sc.names.lookup y.1=some .cell\/sc.names.lookup y.1=some .free:=by decide +kernel) (h5:∀y∈scope.names,y.2=.local\/y.2=.cell->y.1∈own.map (·.1)\/y.1∉N:=by decide +kernel):zky N sc scope own:=⟨h1,h2,h3,h4,h5⟩
abbrev ze3:Stmt:=top 25
abbrev zhq:Stmt:=top 26
abbrev zdV:Stmt:=top 27
abbrev zfi:Stmt:=top 28
abbrev zdf:Stmt:=top 29
abbrev zdN:Stmt:=top 30
abbrev zd6:Stmt:=top 31
abbrev zcn:Stmt:=top 32
abbrev zfP:Stmt:=top 33
abbrev zfp:Stmt:=top 46
abbrev zkh:Stmt:=top 47
abbrev zbb:Stmt:=top 48
abbrev zdJ:Stmt:=top 60
abbrev zer:Stmt:=top 61
abbrev zgo:Stmt:=top 62
abbrev zeu:Stmt:=top 63
abbrev zcJ:Stmt:=top 64
abbrev zfa:Stmt:=top 65
abbrev zbZ:Stmt:=top 66
abbrev zk8:Stmt:=top 67
abbrev zgK:Stmt:=top 68
abbrev Z8:Stmt:=top 69
abbrev zeU:Stmt:=top 70
abbrev zeJ:Stmt:=top 71
abbrev zmn:Stmt:=top 74
abbrev zi5:Stmt:=top 75
abbrev zep:Stmt:=top 76
abbrev ziZ:Stmt:=top 77
abbrev zkW:Stmt:=top 78
abbrev zbl:Stmt:=ye (top 12) 0
abbrev zbj:Stmt:=ye (top 13) 0
abbrev zaI:Stmt:=ye (top 14) 0
abbrev zaR:Stmt:=ye (top 15) 0
abbrev zbt:Stmt:=ye (top 43) 0
abbrev zab:Stmt:=ye (top 43) 1
abbrev ZM:Stmt:=ye (top 43) 2
abbrev zc6:Stmt:=ye (top 43) 3
abbrev zch:Stmt:=ye (top 43) 4
abbrev zc8:Stmt:=ye (top 44) 0
abbrev zbk:Stmt:=ye (top 44) 1
abbrev zaf:Stmt:=ye (top 45) 0
abbrev zah:Stmt:=ye (top 45) 1
abbrev zbH:Stmt:=ye (top 45) 2
abbrev zcA:Stmt:=ye (top 45) 3
abbrev zbE:Stmt:=ye (top 57) 0
abbrev zde:Stmt:=ye (top 58) 0
abbrev zac:Stmt:=ye (top 59) 0
abbrev zaG:Stmt:=ye (top 59) 1
abbrev yO:Stmt:=ye (top 59) 2
abbrev zbS:Stmt:=ye (top 59) 3
abbrev yP:Stmt:=ye (top 59) 4
abbrev ZX:Stmt:=ye (top 59) 5
theorem zdF:zt ["word", "sign"] ["word"] (zk ze3):=scq
theorem zdC:zt ["row", "sign", "parts", "byte"] ["row", "sign"] (zk zhq):=scq
theorem zaX:zt ["lines", "text", "line"] ["lines"] (zk zdV):=scq
theorem Za:zt ["text", "reader", "parts", "number", "line", "fault"] ["text", "reader"] (zk zfi):=scq
theorem zca:zt ["word", "line", "fields"] ["word", "line"] (zk zdf):=scq
theorem zc9:zt ["word", "line", "fields"] ["word", "line"] (zk zdN):=scq
theorem Zw:zt ["field", "byte", "number"] ["field"] (zk zd6):=scq
theorem zbW:zt ["field", "least", "most", "number"] ["field", "least", "most"] (zk zcn):=scq
theorem zeR:zt ["field", "byte"] ["field"] (zk zfP):=scq
theorem zet:zt ["number", "line", "field"] ["number", "line"] (zk zfp):=scq
theorem zgh:zt ["field", "number", "word"] ["field"] (zk zkh):=scq
theorem y8:zt ["line", "length", "height", "before", "numbers", "field", "opening", "other"] ["line", "length", "height", "before"] (zk zbb):=scq
theorem za8:zt ["text", "reader", "texts", "wall_reader"] ["text"] (zk zdJ):=scq
theorem zhN:zt ["line", "start"] ["line", "start"] (zk zer):=scq
theorem zcZ:zt ["line", "walls", "before", "corner", "taken"] ["line", "walls", "before"] (zk zgo):=scq
theorem zbi:zt ["line", "walls", "fields", "corner"] ["line", "walls"] (zk zeu):=scq
theorem zaM:zt ["fields", "walls", "names", "wall", "words", "word"] ["fields", "walls"] (zk zcJ):=scq
theorem zb4:zt ["corners", "taken", "corner"] ["corners"] (zk zfa):=scq
theorem Zt:zt ["corner", "walls", "taken", "one", "other", "end"] ["corner", "walls", "taken"] (zk zbZ):=scq
theorem zm5:zt ["wall", "side"] ["wall", "side"] (zk zk8):=scq
theorem zjY:zt ["wall", "side"] ["wall", "side"] (zk zgK):=scq
theorem yn:zt ["end", "walls", "taken", "wall", "place", "course", "other_end"] ["end", "walls", "taken"] (zk Z8):=scq
theorem Zp:zt ["site", "parts", "corner", "one", "other", "part"] ["site"] (zk zeU):=scq
theorem ZO:zt ["site", "parts", "rings", "part", "corners", "corner"] ["site", "parts"] (zk zeJ):=scq
theorem zdz:zt ["u", "found", "refusal", "parts", "row"] ["u"] (zk zmn):=scq
theorem zlJ:zt ["u"] ["u"] (zk zi5):=scq
theorem zdx:zt ["rows", "row"] ["rows"] (zk zep):=scq
theorem zlW:zt ["refusal"] ["refusal"] (zk ziZ):=scq
theorem znm:zt ["number", "row", "signs"] ["number", "row", "signs"] (zk zkW):=scq
theorem zel:zt ["self", "number", "told"] ["self", "number", "told"] (zk zbl):=scq
theorem zej:zt ["self"] ["self"] (zk zbj):=scq
theorem zdn:zt ["self", "line", "kind"] ["self", "line", "kind"] (zk zaI):=scq
theorem zdr:zt ["self", "kind"] ["self", "kind"] (zk zaR):=scq
theorem zei:zt ["self", "numbers"] ["self", "numbers"] (zk zbt):=scq
theorem zcB:zt ["self", "length", "height"] ["self", "length", "height"] (zk zab):=scq
theorem zb6:zt ["self", "other"] ["self", "other"] (zk ZM):=scq
theorem zax:zt ["self", "other", "side_by_side", "one_above_another"] ["self", "other"] (zk zc6):=scq
theorem zfl:zt ["self", "place", "course"] ["self", "place", "course"] (zk zch):=scq
theorem zgb:zt ["self", "head", "openings"] ["self", "head", "openings"] (zk zc8):=scq
theorem zaU:zt ["self", "place", "course", "opening"] ["self", "place", "course"] (zk zbk):=scq
theorem zc0:zt ["self"] ["self"] (zk zaf):=scq
theorem zcS:zt ["self"] ["self"] (zk zah):=scq
theorem zeI:zt ["self", "line"] ["self", "line"] (zk zbH):=scq
theorem ze4:zt ["self", "first", "second"] ["self", "first", "second"] (zk zbE):=scq
theorem zf4:zt ["self", "walls", "texts", "corners"] ["self", "walls", "texts", "corners"] (zk zde):=scq
theorem zcI:zt ["self"] ["self"] (zk zac):=scq
theorem zds:zt ["self"] ["self"] (zk zaG):=scq
theorem yK:zt ["self", "reader"] ["self"] (zk yO):=scq
theorem zeY:zt ["self", "line"] ["self", "line"] (zk zbS):=scq
theorem yp:zt ["self", "line", "reader", "before"] ["self", "line"] (zk yP):=scq
theorem zce:zt ["self", "rest"] ["self", "rest"] (zk ZX):=scq
structure Ad where
 (yx y9 zI zm zn yj zw z4 zbf zM zhJ zhv zdR zcK zc7 zdT zgG zcj zi3 zfN zkw zfd zgr zeB zgj zey zhj zfj zeD zk9 zgx zbF zht zh0 zg2 ziP zex zf2 zfe yE zbx Zq zaN zbo zaa ZR zdj zcm zda zd0 zai zae zbO zcL zbC zc2 zam zaH ZU zbU ZT Z1 Zx zaJ ZD:Addr)
 (zhV zhG zdY zc1 zc5 zdG zgA zcu zi1 ze8 zkK zfr zgk zev zgt zeE zhw zfA zeC zkI zgB zbB zhW zh2 zeb ziO zew zfX zfh yV zbs Zv zaK zbw zal ZP zdb zb9 zdh zdU zao zaj zbQ zcO zbG zdd zag zaL ZS zbL ZV ZZ:FuncData)
 (zjF zgP zhi zfw zln zjm zjv zk5 zdq zkT zjN zkL zpP zoA zp8 zg9 ziv zil zeg zho zqh zqR ziC zis zgU zjU zhm zim zqx zjZ zcw zj4:Tok)
section
variable {K:PySem.W.Frag}{mg:Str->Option Value}{h:Heap}{C:Addr}{n q:Str}{d:FuncData}
structure FT (K:PySem.W.Frag) (mg:Str->Option Value) (n:Str) (s:Stmt) (f:Addr) (d:FuncData) (ps:List Str):Prop where
 m:mg n=some (.ref f)
 F:Fun K n n s f d
 b:Binds K d ps []
theorem FT.of {s:Stmt}{f:Addr}{oc kV dc pm cd ct:Value}{od an:Option Addr}{sl:Array (Option Value)}{ps:List Str}(KX:K.In h) (G:h.Ns mainGlobals mg) (h1:PySem.W.nsIn K mainGlobals n=some (some (.ref f))) (l:K.lookup f=some ⟨oc,od,.func (PySem.W.fnOf n n (zaC s) (ZW s) (zk s) .none kV dc pm an cd ct),sl⟩) (c:PySem.W.codeIn K cd n=true) (k:PySem.W.keepIn K (.ref f)=true) (hb:∀(kV dc pm:Value) (an:Option Addr) (cd ct:Value) (us:List Value),us.length=ps.length->bindArgs (PySem.W.fnOf n n (zaC s) (ZW s) (zk s) .none kV dc pm an cd ct) ⟨us,[]⟩=pure (ps.zip us)):FT K mg n s f (PySem.W.fnOf n n (zaC s) (ZW s) (zk s) .none kV dc pm an cd ct) ps:=⟨PySem.W.mg_of KX G h1,zjz l c k,(zjz l c k).binds hb⟩
structure MT (K:PySem.W.Frag) (C:Addr) (n q:Str) (s:Stmt) (f:Addr) (d:FuncData) (ps:List Str):Prop where
 M:znl K C n f
 F:Fun K n q s f d
 b:Binds K d ps []
theorem MT.of {s:Stmt}{f:Addr}{oc kV dc pm cd ct:Value}{od an:Option Addr}{sl:Array (Option Value)}{ps:List Str}(h1:PySem.W.findIn K (.ref C) n=some (some (.ref f))) (h2:PySem.W.isFn K (.ref f)=true) (l:K.lookup f=some ⟨oc,od,.func (PySem.W.fnOf n q (zaC s) (ZW s) (zk s) .none kV dc pm an cd ct),sl⟩) (c:PySem.W.codeIn K cd q=true) (k:PySem.W.keepIn K (.ref f)=true) (hb:∀(kV dc pm:Value) (an:Option Addr) (cd ct:Value) (us:List Value),us.length=ps.length->bindArgs (PySem.W.fnOf n q (zaC s) (ZW s) (zk s) .none kV dc pm an cd ct) ⟨us,[]⟩=pure (ps.zip us)):MT K C n q s f (PySem.W.fnOf n q (zaC s) (ZW s) (zk s) .none kV dc pm an cd ct) ps:=⟨⟨h1,h2,k⟩,zjz l c k,(zjz l c k).binds hb⟩
structure CT (K:PySem.W.Frag) (mg:Str->Option Value) (n:Str) (C:Addr):Prop where
 m:mg n=some (.ref C)
 c:Cls K C
 mk':PySem.W.makesIn K C=true
 kc:PySem.W.keepIn K (.ref C)=true
theorem CT.k0 {s:Stmt}{f:Addr}{ps:List Str}(x:CT K mg n C) (y:MT K C "__init__" q s f d ps):Mk K C f:=⟨x.mk',y.M.at_,y.M.fn,x.kc⟩
structure XT (K:PySem.W.Frag) (mg:Str->Option Value) (n:Str) (C:Addr):Prop where
 m:mg n=some (.ref C)
 D:zjX K C
 E:zno K C
 mk':zd8 K C=true
 kc:PySem.W.keepIn K (.ref C)=true
theorem XT.k0 {s:Stmt}{f:Addr}{ps:List Str}(x:XT K mg n C) (y:MT K C "__init__" q s f d ps):MkX K C f:=⟨x.mk',y.M.at_,y.M.fn,x.kc⟩
theorem zrt {p:Addr}{us:Array Value}{dO:Option Addr}{no:Nat}{so:Array (Option Value)}{vs:List V}(o:K.lookup p=some ⟨.type "tuple",dO,.seq us no,so⟩) (h:us.size<=sizeLine/\Vals vs us.toList):∀H:Hp,SqT K H p vs:=fun H=>.inr ⟨_,_,_,o,rfl,rfl,h.1,h.2⟩
end
structure Txt (K:PySem.W.Frag) (mg:Str->Option Value) (a:Ad):Prop where
 zf8:XT K mg "Refusal" a.yx
 zb7:XT K mg "TooLong" a.y9
 yD:XT K mg "TextFault" a.zI
 zj:XT K mg "LineFault" a.zm
 zB:CT K mg "Opening" a.zn
 yW:CT K mg "Wall" a.yj
 zx:CT K mg "WallReader" a.zw
 z0:CT K mg "Corner" a.z4
 zbX:CT K mg "Site" a.zbf
 zu:CT K mg "SiteReader" a.zM
 zX:FT K mg "bytes_of" ze3 a.zhJ a.zhV ["word"]
 yL:FT K mg "split_at" zhq a.zhv a.zhG ["row", "sign"]
 Z9:FT K mg "lines_joined" zdV a.zdR a.zdY ["lines"]
 za7:FT K mg "read_lines" zfi a.zcK a.zc1 ["text", "reader"]
 yz:FT K mg "fields_behind" zdf a.zc7 a.zc5 ["word", "line"]
 ZY:FT K mg "field_behind" zdN a.zdT a.zdG ["word", "line"]
 Zm:FT K mg "number_in" zd6 a.zgG a.zgA ["field"]
 yl:FT K mg "number_from_to" zcn a.zcj a.zcu ["field", "least", "most"]
 zed:FT K mg "name_in" zfP a.zi3 a.zi1 ["field"]
 za5:FT K mg "head_value" zfp a.zfN a.ze8 ["number", "line"]
 zfH:FT K mg "end_in" zkh a.zkw a.zkK ["field"]
 zba:FT K mg "opening_in" zbb a.zfd a.zfr ["line", "length", "height", "before"]
 zbM:FT K mg "read_site" zdJ a.zgr a.zgk ["text"]
 yc:FT K mg "begins_with" zer a.zeB a.zev ["line", "start"]
 zbD:FT K mg "corner_in" zgo a.zgj a.zgt ["line", "walls", "before"]
 zaz:FT K mg "corner_told" zeu a.zey a.zeE ["line", "walls"]
 ZH:FT K mg "end_told" zcJ a.zhj a.zhw ["fields", "walls"]
 za6:FT K mg "ends_taken" zfa a.zfj a.zfA ["corners"]
 zaA:FT K mg "go_together" zbZ a.zeD a.zeC ["corner", "walls", "taken"]
 zbv:FT K mg "end_of" zk8 a.zk9 a.zkI ["wall", "side"]
 zbP:FT K mg "end_place" zgK a.zgx a.zgB ["wall", "side"]
 Zj:FT K mg "may_have_corner" Z8 a.zbF a.zbB ["end", "walls", "taken"]
 zcR:FT K mg "parts_of" zeU a.zht a.zhW ["site"]
 zcC:FT K mg "rings_in" zeJ a.zh0 a.zh2 ["site", "parts"]
 zmK:FT K mg "sizes" zmn a.zg2 a.zeb ["u"]
 zec:FT K mg "site_of" zi5 a.ziP a.ziO ["u"]
 zaE:FT K mg "refuse_long" zep a.zex a.zew ["rows"]
 zee:FT K mg "refused" ziZ a.zf2 a.zfX ["refusal"]
 zbh:FT K mg "answer" zkW a.zfe a.zfh ["number", "row", "signs"]
 ZK:MT K a.yx "__init__" "Refusal.__init__" zbl a.yE a.yV ["self", "number", "told"]
 ZI:MT K a.y9 "__init__" "TooLong.__init__" zbj a.zbx a.zbs ["self"]
 yu:MT K a.zI "__init__" "TextFault.__init__" zaI a.Zq a.Zv ["self", "line", "kind"]
 zb:MT K a.zm "__init__" "LineFault.__init__" zaR a.zaN a.zaK ["self", "kind"]
 ZL:MT K a.zn "__init__" "Opening.__init__" zbt a.zbo a.zbw ["self", "numbers"]
 Ze:MT K a.zn "lies_within" "Opening.lies_within" zab a.zaa a.zal ["self", "length", "height"]
 yR:MT K a.zn "stands_behind" "Opening.stands_behind" ZM a.ZR a.ZP ["self", "other"]
 zaY:MT K a.zn "meets" "Opening.meets" zc6 a.zdj a.zdb ["self", "other"]
 zar:MT K a.zn "covers" "Opening.covers" zch a.zcm a.zb9 ["self", "place", "course"]
 zaW:MT K a.yj "__init__" "Wall.__init__" zc8 a.zda a.zdh ["self", "head", "openings"]
 zbp:MT K a.yj "is_open" "Wall.is_open" zbk a.zd0 a.zdU ["self", "place", "course"]
 Zb:MT K a.zw "__init__" "WallReader.__init__" zaf a.zai a.zao ["self"]
 yi:MT K a.zw "has_head" "WallReader.has_head" zah a.zae a.zaj ["self"]
 yd:MT K a.zw "take" "WallReader.take" zbH a.zbO a.zbQ ["self", "line"]
 zjO:MT K a.zw "take_rest" "WallReader.take_rest" zcA a.zcL a.zcO ["self", "rest"]
 Z3:MT K a.z4 "__init__" "Corner.__init__" zbE a.zbC a.zbG ["self", "first", "second"]
 zaV:MT K a.zbf "__init__" "Site.__init__" zde a.zc2 a.zdd ["self", "walls", "texts", "corners"]
 Zc:MT K a.zM "__init__" "SiteReader.__init__" zac a.zam a.zag ["self"]
 yt:MT K a.zM "in_head" "SiteReader.in_head" zaG a.zaH a.zaL ["self"]
 z9:MT K a.zM "walls_read" "SiteReader.walls_read" yO a.ZU a.ZS ["self"]
 Z2:MT K a.zM "take" "SiteReader.take" zbS a.zbU a.zbL ["self", "line"]
 ya:MT K a.zM "begin_wall" "SiteReader.begin_wall" yP a.ZT a.ZV ["self", "line"]
 yT:MT K a.zM "take_rest" "SiteReader.take_rest" ZX a.Z1 a.ZZ ["self", "rest"]
 zm1:NoAttr K a.yx "number"
 znP:NoAttr K a.yx "told"
 zcr:NoAttr K a.y9 "number"
 zd3:NoAttr K a.y9 "told"
 zf3:NoAttr K a.zI "kind"
 zf7:NoAttr K a.zI "line"
 zbe:NoAttr K a.zI "number"
 zb8:NoAttr K a.zI "told"
 zaq:NoAttr K a.zm "kind"
 Zk:NoAttr K a.zn "high"
 Zu:NoAttr K a.zn "wide"
 Zo:NoAttr K a.zn "x"
 Zn:NoAttr K a.zn "y"
 zay:NoAttr K a.yj "height"
 zgH:NoAttr K a.yj "left"
 zb0:NoAttr K a.yj "length"
 zgF:NoAttr K a.yj "name"
 zdi:NoAttr K a.yj "openings"
 ziw:NoAttr K a.yj "reveal"
 zfG:NoAttr K a.yj "right"
 zT:NoAttr K a.zw "head"
 yU:NoAttr K a.zw "lines"
 yH:NoAttr K a.zw "openings"
 zW:NoAttr K a.z4 "first"
 yg:NoAttr K a.z4 "second"
 Z6:NoAttr K a.zbf "corners"
 zjV:NoAttr K a.zbf "texts"
 zcP:NoAttr K a.zbf "walls"
 z8:NoAttr K a.zM "corners"
 zC:NoAttr K a.zM "readers"
 zbn:CAt K a.yx "__init__" a.yE
 zmv:PySem.W.exmOne K (.ref a.yx) (.ref a.yx)=some true
 ze6:PySem.W.exmOne K (.ref a.y9) (.ref a.yx)=some true
 zen:PySem.W.exmOne K (.ref a.zI) (.ref a.yx)=some true
 zlg:PySem.W.exmOne K (.ref a.zm) (.ref a.yx)=some false
 zli:PySem.W.exmOne K (.ref a.yx) (.ref a.zm)=some false
 zlh:PySem.W.exmOne K (.ref a.y9) (.ref a.zm)=some false
 zkf:PySem.W.exmOne K (.ref a.zI) (.ref a.zm)=some false
 zad:PySem.W.exmOne K (.ref a.zm) (.ref a.zm)=some true
 yq:mg "OTHER_LINE" = some (.int 1 a.zjF)
 za1:mg "OUT_OF_BOUNDS" = some (.int 2 a.zgP)
 zhL:mg "OUT_OF_ORDER" = some (.int 3 a.zhi)
 zfz:mg "PLACE_IN_COMMON" = some (.int 4 a.zfw)
 zl0:mg "TOO_MANY" = some (.int 5 a.zln)
 zjK:mg "NAME_TAKEN" = some (.int 6 a.zjm)
 zjx:mg "FIFTH_WALL" = some (.int 7 a.zjv)
 zbR:mg "NO_CORNER" = some (.int 8 a.zk5)
 zdl:mg "CORNER_OUT_OF_ORDER" = some (.int 9 a.zdq)
 zkp:mg "END_TAKEN" = some (.int 10 a.zkT)
 zkd:mg "ENDS_APART" = some (.int 11 a.zjN)
 zgI:mg "LINE_FEED" = some (.int 10 a.zkL)
 zmB:mg "BLANK" = some (.int 32 a.zpP)
 zhb:mg "NOUGHT" = some (.int 48 a.zoA)
 zqC:mg "NINE" = some (.int 57 a.zp8)
 zhA:mg "FIRST_LETTER" = some (.int 97 a.zg9)
 ziF:mg "LAST_LETTER" = some (.int 122 a.ziv)
 ziA:mg "MOST_DIGITS" = some (.int 5 a.zil)
 zeh:mg "MOST_NAME_LETTERS" = some (.int 15 a.zeg)
 zfc:mg "HEAD_WORDS" = some (.ref a.Zx)
 zfv:∀H:Hp,SqT K H a.Zx [.str "wall",.str "long",.str "high",.str "left",.str "right",.str "reveal"]
 zh5:mg "OPENING_WORD" = some (.str "open" a.zho)
 zlf:mg "END_WORDS" = some (.ref a.zaJ)
 zgw:∀H:Hp,SqT K H a.zaJ [.str "free",.str "side",.str "end"]
 zqO:mg "SIDE" = some (.int 1 a.zqh)
 zre:mg "END" = some (.int 2 a.zqR)
 zir:mg "MOST_LENGTH" = some (.int 32 a.ziC)
 ziq:mg "MOST_HEIGHT" = some (.int 8 a.zis)
 zgQ:mg "MOST_OPENINGS" = some (.int 8 a.zgU)
 zj0:mg "WALL_START" = some (.str "wall " a.zjU)
 zdH:mg "CORNER_START" = some (.str "corner " a.zhm)
 zif:mg "CORNER_WORD" = some (.str "corner" a.zim)
 zig:mg "CORNER_ENDS" = some (.ref a.ZD)
 zes:∀H:Hp,SqT K H a.ZD [.str "left",.str "right"]
 zos:mg "LEFT" = some (.int 0 a.zqx)
 zjy:mg "MOST_WALLS" = some (.int 4 a.zjZ)
 zcq:mg "LEAST_BETWEEN_CORNERS" = some (.int 5 a.zcw)
 zjp:mg "MOST_BYTES" = some (.int 4096 a.zj4)
 z_all:mg "all" = none
 z_any:mg "any" = none
 z_enumerate:mg "enumerate" = none
 z_len:mg "len" = none
 z_list:mg "list" = none
 z_ord:mg "ord" = none
 z_range:mg "range" = none
 z_set:mg "set" = none
 z_sorted:mg "sorted" = none
 bt:∀(s:Shared) (us:List Value),us.length=(["u"]:List Str).length->BindsTo s a.zeb ⟨us,[]⟩ ((["u"]:List Str).zip us)
theorem txt_mk {K:PySem.W.Frag}{mg:Str->Option Value}{fa:Addr}{a:Ad}(hfa:mg "sizes" = some (.ref fa)) (T:Txt K mg a):∃a:Ad,fa=a.zg2/\Txt K mg a/\∀(s:Shared) (us:List Value),us.length=(["u"]:List Str).length->BindsTo s a.zeb ⟨us,[]⟩ ((["u"]:List Str).zip us):=⟨a,Value.ref.inj (Option.some.inj (hfa.symm.trans T.zmK.m)),T,T.bt⟩
def iB (b:Bd.Bytes):List V:=b.map fun c=>V.int ((c.toNat:Nat):Int)
def zk7 (H H':Hp):Prop:=∀b o,H b=some o->(∀φ,o≠.ext φ)->H' b=some o
theorem _root_.L2.Same.thenM {H H1 H2:Hp}(a:Same H H1) (b:zk7 H1 H2):zk7 H H2:=fun c o h n=>b c o (a c o h) n
theorem _root_.L2.Same.new {H H':Hp}{p:Addr}{o:HO}(s:Same H H') (h:H' p=Option.none):Same H (upd H' p o):=fun b u e=>by
 rw[zd (zg (s b u e) h)];exact s b u e
theorem _root_.L2.Same.set {H H':Hp}{p:Addr}{o:HO}(s:Same H H') (h:H p=Option.none):Same H (upd H' p o):=fun b u e=>by
 rw[zd (zg e h)];exact s b u e
abbrev Rows (H:Hp):List Addr->List Bd.Bytes->Prop:=Paired fun a b=>H a=some (.lst (iB b))
theorem Rows.same {H H':Hp}{as:List Addr}{bs:List Bd.Bytes}(s:Same H H') (r:Rows H as bs):Rows H' as bs:=Paired.mapP r fun _ _ h=>s _ _ h
theorem Rows.get {H:Hp}:∀{as:List Addr}{bs:List Bd.Bytes}{i:Nat}{b:Bd.Bytes},Rows H as bs->bs[i]?=some b->∃a,as[i]?=some a/\H a=some (.lst (iB b))
 |_,_,_,_,.nil,h=>by simp at h
 |_,_,0,_,.cons h t,e=>by
  have e':=Option.some.inj e;subst e';exact⟨_,rfl,h⟩
 |_,_,i+1,b,.cons h t,e=>by
  obtain⟨a,h1,h2⟩:=Rows.get (i:=i) (b:=b) t e;exact⟨a,h1,h2⟩
theorem zaD {ts:List Addr}{i:Nat}{v:V}(h:(ts.map V.ref)[i]?=some v):∃u,ts[i]?=some u/\v=.ref u:=by
 rw[List.getElem?_map] at h;cases e:ts[i]? with
 |none=>rw[e] at h;cases h
 |some u=>rw[e] at h;exact⟨u,rfl,(Option.some.inj h).symm⟩
theorem Rows.upd {H:Hp}{z:Addr}{o:HO}:∀{as:List Addr}{bs:List Bd.Bytes},Rows H as bs->z∉as->Rows (upd H z o) as bs
 |_,_,.nil,_=>.nil
 |_,_,.cons h t,n=>.cons (by rw[zd (fun q=>n (by simp[q]))];exact h) (Rows.upd t fun q=>n (by simp[q]))
def Fails (C:Addr) (E:XK) (H:Hp) (k:Nat):Prop:=∀(d:Addr) (H':Hp),zk7 H H'->H' d=some (.xd [("kind",.int (k:Int))])->E (C,true) (some d) H'
theorem Fails.same {C:Addr}{E:XK}{H H1:Hp}{k:Nat}(f:Fails C E H k) (s:Same H H1):Fails C E H1 k:=fun d H' m e=>f d H' (s.thenM m) e
def zn2 (C:Addr) (f:Str):Sp:=fun vs H Q _=>∃(p:Addr) (v:V) (fr:Bool) (tb:Value),vs=[.ref p,v]/\H p=some (xO C fr none tb p) /\
 ∀(d:Addr) (H':Hp),H d=none->d≠p->H' p=some (xO C fr (some d) tb p)->H' d=some (.xd [(f,v)])->(∀b,b≠p->b≠d->H' b=H b)->Q .non H'
section
variable {P:Program}{w:World}{K:PySem.W.Frag}{mg:Str->Option Value}{base:Heap}{a:Ad}{cm:Bool}
theorem zy (T:Txt K mg a):FnOk P w K mg base (CXo P w) cm 1 a.zaN a.zaK ["self", "kind"] (zn2 a.zm "kind"):=by
 refine zF T.zb.F zdr (fun vs H Q E h=>?_) (fun cdv A outer s H vs Q E hr h=>?_)
 ·obtain⟨p,v,fr,tb,rfl,_⟩:=h;rfl
 ·obtain⟨p,v,fr,tb,rfl,hp,k⟩:=h;refine⟨_,(zi (ze9 (pv 0) (pv 1) rfl)),?_⟩;exact⟨_,rfl,_,rfl,p,_,fr,none,tb,rfl,hp,T.zj.D,T.zaq,.inl ⟨rfl,k⟩⟩
def znA (K:PySem.W.Frag):Sp:=fun vs H Q _=>∃(p C:Addr) (v u:V) (fr:Bool) (tb:Value),vs=[.ref p,v,u]/\zjX K C/\NoAttr K C "number" /\ NoAttr K C "told" /\ H p=some (xO C fr none tb p) /\
 ∀(d:Addr) (H':Hp),H d=none->d≠p->H' p=some (xO C fr (some d) tb p)->H' d=some (.xd [("number",v),("told",u)])->(∀b,b≠p->b≠d->H' b=H b)->Q .non H'
theorem za3 (T:Txt K mg a):FnOk P w K mg base (CXo P w) cm 1 a.yE a.yV ["self", "number", "told"] (znA K):=by
 refine zF T.ZK.F zel (fun vs H Q E h=>?_) (fun cdv A outer s H vs Q E hr h=>?_)
 ·obtain⟨p,C,v,u,fr,tb,rfl,_⟩:=h;rfl
 ·obtain⟨p,C,v,u,fr,tb,rfl,xc,na,nb,hp,k⟩:=h;refine⟨_,(zh (ze9 (pv 0) (pv 1) rfl)
   (zi (ze9 (pv 0) (pv 2) rfl))),?_⟩
  refine⟨_,rfl,_,rfl,p,C,fr,none,tb,rfl,hp,xc,na,.inl ⟨rfl,fun d H1 nd dp e1 e2 kp=>?_⟩⟩;refine⟨_,rfl,_,rfl,p,C,fr,some d,tb,rfl,e1,xc,nb,.inr ⟨d,_,rfl,e2,(by show 1<1000;decide),?_⟩⟩;refine k d _ nd dp (by rw[zd (Ne.symm dp)];exact e1) ?_ fun b hb hd=>by rw[zd hd];exact kp b hb hd
  rw[zc];rfl
def rfF (n:Int) (q:Addr):List (Str×V):=[("number",.int n),("told",.ref q)]
def zog (C:Addr) (n:Int):Sp:=fun vs H Q _=>∃(p:Addr) (fr:Bool) (tb:Value),vs=[.ref p]/\H p=some (xO C fr none tb p) /\
 ∀(d q:Addr) (H':Hp),H d=none->H q=none->d≠p->H' p=some (xO C fr (some d) tb p)->H' d=some (.xd (rfF n q))->H' q=some (.lst [])->(∀b,b≠p->b≠d->b≠q->H' b=H b)->Q .non H'
theorem zem (T:Txt K mg a):FnOk P w K mg base (CXo P w) cm 2 a.zbx a.zbs ["self"] (zog a.y9 (-1)):=by
 have ZJ:FnOk P w K mg base (CXo P w) cm 1 a.yE a.yV ["self", "number", "told"] (znA K):=za3 T;refine zF T.ZI.F zej (fun vs H Q E h=>?_) (fun cdv A outer s H vs Q E hr h=>?_)
 ·obtain⟨p,fr,tb,rfl,_⟩:=h;rfl
 ·obtain⟨p,fr,tb,rfl,hp,k⟩:=h;refine⟨_,(zi (yr (zkt ZJ hr.q rfl T.zf8.m T.zbn T.ZK.b takes_cx.passes (za (pv 0) (za (zez zb2 zq) (za (z7 ze) ze)))))),?_⟩;refine⟨_,rfl,_,rfl,Nat.zero_le _,fun q nq=>?_⟩;have pq:p≠q:=zg hp nq;refine⟨p,_,_,_,fr,tb,rfl,T.zb7.D,T.zcr,T.zd3,by rw[zd pq];exact hp,fun d H1 nd dp e1 e2 kp=>?_⟩;have dq:d≠q:=fun e=>by rw[e,zc] at nd;cases nd
  refine k d q H1 (by rw[zd dq] at nd;exact nd) nq dp e1 e2 (by rw[kp q (Ne.symm pq) (Ne.symm dq)];exact zc) fun b h1 h2 h3=>by rw[kp b h1 h2,zd h3]
def wfF (q:Addr) (i k:V):List (Str×V):=[("number",.int (-6)),("told",.ref q),("line",i),("kind",k)]
def zgJ (C:Addr):Sp:=fun vs H Q _=>∃(p:Addr) (i k:V) (fr:Bool) (tb:Value),vs=[.ref p,i,k]/\H p=some (xO C fr none tb p) /\
 ∀(d q:Addr) (H':Hp),H d=none->H q=none->d≠p->H' p=some (xO C fr (some d) tb p)->H' d=some (.xd (wfF q i k))->H' q=some (.lst [])->(∀b,b≠p->b≠d->b≠q->H' b=H b)->Q .non H'
theorem zdp (T:Txt K mg a):FnOk P w K mg base (CXo P w) cm 2 a.Zq a.Zv ["self", "line", "kind"] (zgJ a.zI):=by
 have ZJ:FnOk P w K mg base (CXo P w) cm 1 a.yE a.yV ["self", "number", "told"] (znA K):=za3 T;refine zF T.yu.F zdn (fun vs H Q E h=>?_) (fun cdv A outer s H vs Q E hr h=>?_)
 ·obtain⟨p,i,k,fr,tb,rfl,_⟩:=h;rfl
 ·obtain⟨p,i,kk,fr,tb,rfl,hp,k⟩:=h;refine⟨_,(zh (yr (zkt ZJ hr.q rfl T.zf8.m T.zbn T.ZK.b takes_cx.passes (za (pv 0) (za (zez zb2 zq) (za (z7 ze) ze)))))
   (zh (ze9 (pv 0) (pv 1) rfl)
   (zi (ze9 (pv 0) (pv 2) rfl)))),?_⟩
  refine⟨_,rfl,_,rfl,Nat.zero_le _,fun q nq=>?_⟩;have pq:p≠q:=zg hp nq;refine⟨p,_,_,_,fr,tb,rfl,T.yD.D,T.zbe,T.zb8,by rw[zd pq];exact hp,fun d H1 nd dp e1 e2 kp=>?_⟩;have dq:d≠q:=fun e=>by rw[e,zc] at nd;cases nd
  refine⟨_,rfl,_,rfl,p,_,fr,some d,tb,rfl,e1,T.yD.D,T.zf7,.inr ⟨d,_,rfl,e2,(by show 2<1000;decide),?_⟩⟩;have e3:upd H1 d (.xd (zcf "line" i [("number",.int (-6)),("told",.ref q)])) p=some (xO a.zI fr (some d) tb p):=by
   rw[zd (Ne.symm dp)];exact e1
  refine⟨_,rfl,_,rfl,p,_,fr,some d,tb,rfl,e3,T.yD.D,T.zf3,.inr ⟨d,_,rfl,zc,(by show 3<1000;decide),?_⟩⟩;rw[yB];refine k d q _ (by rw[zd dq] at nd;exact nd) nq dp (by rw[zd (Ne.symm dp)];exact e1) ?_ (by rw[zd (Ne.symm dq),kp q (Ne.symm pq) (Ne.symm dq)];exact zc) fun b hb hd hq=>by rw[zd hd,kp b hb hd,zd hq]
  rw[zc];rfl
theorem zA (T:Txt K mg a) {E:XK}{H:Hp}{k:Nat}{D:zhI}{σ:L2.St}(h:Fails a.zm E H k) :
  zlI K (fun _=>E) (zj6 a.zm (zn2 a.zm "kind") (fun _=>E) (zpS (tC (.int (k:Int))) zlZ)) D σ H:=by
 refine⟨(by show 1<=1000;decide),fun x hx=>⟨x,_,true,.none,rfl,zc,fun d H' nd dx e1 e2 kp=>⟨rfl,x,_,some d,rfl,e1,T.zj.E,?_⟩⟩⟩;refine h d _ (fun b o e n=>?_) (zbT e2 fun φ q=>nomatch q);have bx:b≠x:=zg e hx;have nd':H d=none:=by
  rw[zd dx] at nd;exact nd
 refine zbT ?_ n;rw[kp b bx (zg e nd'),zd bx];exact e
def FailsN (C:Addr) (n:Int) (E:XK) (H:Hp):Prop:=∀(d q:Addr) (H':Hp),zk7 H H'->H' d=some (.xd (rfF n q))->H' q=some (.lst [])->E (C,true) (some d) H'
theorem FailsN.same {C:Addr}{n:Int}{E:XK}{H H1:Hp}(f:FailsN C n E H) (s:Same H H1):FailsN C n E H1:=fun d q H' m e e2=>f d q H' (s.thenM m) e e2
theorem zl5 {C:Addr}{n:Int}(hE:zno K C) {E:XK}{H:Hp}{D:zhI}{σ:L2.St}(h:FailsN C n E H) :
  zlI K (fun _=>E) (zj6 C (zog C n) (fun _=>E) zlZ) D σ H:=by
 refine⟨(by show 0<=1000;decide),fun x hx=>⟨x,true,.none,rfl,zc,fun d q H' nd nq dx e1 e2 e3 kp=>⟨rfl,x,_,some d,rfl,e1,hE,?_⟩⟩⟩;refine h d q _ (fun b o e n=>?_) (zbT e2 fun φ q=>nomatch q) (zbT e3 fun φ q=>nomatch q);have bx:b≠x:=zg e hx;have nd':H d=none:=by
  rw[zd dx] at nd;exact nd
 have qx:q≠x:=fun e=>by
  rw[e,zc] at nq;cases nq
 have nq':H q=none:=by
  rw[zd qx] at nq;exact nq
 refine zbT ?_ n;rw[kp b bx (zg e nd') (zg e nq'),zd bx];exact e
end
section
variable {K:PySem.W.Frag}{a:Addr}{xs:List V}{g:TG}{tb:TS}{D:zhI}{σ:L2.St}{H:Hp}
theorem szl:1000000<=sizeLine:=by decide
theorem zoL (Pv:Nat->L2.St->Hp->Prop) (h0:Pv 0 σ H) (hl:∀i σ H,i<=xs.length->Pv i σ H->SqL K H a xs)
  (hs:∀i x σ H T,xs[i]?=some x->Pv i σ H->H T=none->g (.ref T) σ (upd H T (.tup [.int (i:Nat),x])) fun σ2 H2=>tb { D with nx:=Pv (i+1),ct:=Pv (i+1),bk:=D.nx } σ2 H2) (hd:∀σ H,Pv xs.length σ H->D.nx σ H) :
  ∃W:Nat->Nat->L2.St->Hp->Prop,(∃m,W 0 m σ H)/\∀i m σ H,W i m σ H ->
   ((Ite K a).stop i H/\D.nx σ H)\/((Ite K a).go i H/\∃N:L2.St->Hp->Prop,(∀σ' H',N σ' H'->∃m',m'<m/\W (i+1) m' σ' H')/\∀x H',(Ite K a).yld i H x H'->g x σ H' fun σ2 H2=>tb { D with nx:=N,ct:=N,bk:=D.nx } σ2 H2):=by
 refine⟨fun i m σ H=>m=xs.length-i/\i<=xs.length/\Pv i σ H,⟨xs.length,by simp,Nat.zero_le _,h0⟩,?_⟩;rintro i m σ H ⟨rfl,hi,p⟩;have q:=hl i σ H hi p;by_cases hlt:i<xs.length
 ·refine .inr ⟨⟨xs,xs[i],q,by simp[hlt]⟩,Pv (i+1),fun σ' H' p'=>⟨xs.length-(i+1),by omega,rfl,hlt,p'⟩,fun x H' y=>?_⟩;obtain⟨t,z,rfl,ht,rfl,y⟩:=y;exact hs i z σ H t (y xs q) p ht
 ·have e:i=xs.length:=by omega
  subst e;exact .inl ⟨⟨xs,q,Nat.le_refl _⟩,hd σ H p⟩
theorem zm2 (Pv:Nat->L2.St->Hp->Prop) (h0:Pv 0 σ H) (hl:∀i σ H,i<=xs.length->Pv i σ H->SqT K H a xs)
  (hs:∀i x σ H T,xs[i]?=some x->Pv i σ H->H T=none->g (.ref T) σ (upd H T (.tup [.int (i:Nat),x])) fun σ2 H2=>tb { D with nx:=Pv (i+1),ct:=Pv (i+1),bk:=D.nx } σ2 H2) (hd:∀σ H,Pv xs.length σ H->D.nx σ H) :
  ∃W:Nat->Nat->L2.St->Hp->Prop,(∃m,W 0 m σ H)/\∀i m σ H,W i m σ H ->
   ((zoI K a).stop i H/\D.nx σ H)\/((zoI K a).go i H/\∃N:L2.St->Hp->Prop,(∀σ' H',N σ' H'->∃m',m'<m/\W (i+1) m' σ' H')/\∀x H',(zoI K a).yld i H x H'->g x σ H' fun σ2 H2=>tb { D with nx:=N,ct:=N,bk:=D.nx } σ2 H2):=by
 refine⟨fun i m σ H=>m=xs.length-i/\i<=xs.length/\Pv i σ H,⟨xs.length,by simp,Nat.zero_le _,h0⟩,?_⟩;rintro i m σ H ⟨rfl,hi,p⟩;have q:=hl i σ H hi p;by_cases hlt:i<xs.length
 ·refine .inr ⟨⟨xs,xs[i],q,by simp[hlt]⟩,Pv (i+1),fun σ' H' p'=>⟨xs.length-(i+1),by omega,rfl,hlt,p'⟩,fun x H' y=>?_⟩;obtain⟨t,z,rfl,ht,rfl,y⟩:=y;exact hs i z σ H t (y xs q) p ht
 ·have e:i=xs.length:=by omega
  subst e;exact .inl ⟨⟨xs,q,Nat.le_refl _⟩,hd σ H p⟩
end
section
variable {g:TG}{te:TE}{vs:List Nat}{σ:L2.St}{H1:Hp}{Dl:Addr}{Qd:Hp->Prop}
theorem zV {α:Type}:∀{l:List α}{i:Nat}{x:α},l[i]?=some x->l.take (i+1)=l.take i++[x]
 |[],i,x,h=>by simp at h
 |a::l,0,x,h=>by
  have e:a=x:=Option.some.inj h;subst e;rfl
 |a::l,i+1,x,h=>by
  have ih:=zV (l:=l) (i:=i) (x:=x) h;show a::l.take (i+1)=a::l.take i++[x];rw[ih];rfl
theorem zoD {K:PySem.W.Frag}{a:Addr}{xs:List V}(f:V->V) (hq:SqL K H1 a xs) (hl:xs.length<1000000) (hn:H1 Dl=none)
  (he:∀x∈xs,∀(H':Hp) (R:VK),R (f x) H'->g x (yF σ vs) H' fun σ2 H2=>yF σ2 vs=yF σ vs/\H2=H'/\te σ2 H' R)
  (hg:∀x H' (R R':L2.St->Hp->Prop),(∀σ2 H2,R σ2 H2->R' σ2 H2)->g x (yF σ vs) H' R->g x (yF σ vs) H' R')
  (hd:Qd (upd H1 Dl (.lst (xs.map f)))) :
  ∃W:Nat->Nat->Hp->Prop,(∃m,W 0 m (upd H1 Dl (.lst [])))/\∀i m H,W i m H ->
   ((Itl K a).stop i H/\Qd H)\/((Itl K a).go i H/\∃Nx:Hp->Prop,(∀H',Nx H'->∃m',m'<m/\W (i+1) m' H')/\∀x H',(Itl K a).yld i H x H'->g x (yF σ vs) H' fun σ2 H2=>yF σ2 vs=yF σ vs/\zpj σ2 H2 fun b H3 =>
     if b=true then te σ2 H3 fun y H4=>∃acc,H4 Dl=some (.lst acc)/\acc.length<sizeLine/\Nx (upd H4 Dl (.lst (acc++[y]))) else Nx H3):=by
 refine Z4 (xs:=xs) (fun i H=>H=upd H1 Dl (.lst ((xs.take i).map f))) rfl (fun i H hi e=>?_) (fun i x H hx e=>?_) fun H e=>?_
 ·rw[e];exact Same.seq (fun b o z=>by rw[zd (zg z hn)];exact z) hq
 ·subst e;refine hg x _ _ _ ?_ (he x (List.mem_of_getElem? hx) (upd H1 Dl (.lst ((xs.take i).map f))) (fun y H4=>∃acc,H4 Dl=some (.lst acc)/\acc.length<sizeLine/\upd H4 Dl (.lst (acc++[y]))=upd H1 Dl (.lst ((xs.take (i+1)).map f)))
   ⟨_,zc,by rw[List.length_map,List.length_take];exact Nat.lt_of_le_of_lt (Nat.min_le_right _ _) (Nat.lt_of_lt_of_le hl szl),by rw[yB,zV hx,List.map_append];rfl⟩)
  rintro σ2 H2 ⟨w1,rfl,q⟩;exact⟨w1,q⟩
 ·rw[e,List.take_length];exact hd
theorem zm0 {z:Str}(f:Nat->V) (hl:z.cps.toList.length<1000000) (hn:H1 Dl=none)
  (he:∀(c:Nat) (H':Hp) (R:VK),R (f c) H'->g (.str ⟨#[c]⟩) (yF σ vs) H' fun σ2 H2=>yF σ2 vs=yF σ vs/\H2=H'/\te σ2 H' R)
  (hg:∀x H' (R R':L2.St->Hp->Prop),(∀σ2 H2,R σ2 H2->R' σ2 H2)->g x (yF σ vs) H' R->g x (yF σ vs) H' R')
  (hd:Qd (upd H1 Dl (.lst (z.cps.toList.map f)))) :
  ∃W:Nat->Nat->Hp->Prop,(∃m,W 0 m (upd H1 Dl (.lst [])))/\∀i m H,W i m H ->
   ((Its z).stop i H/\Qd H)\/((Its z).go i H/\∃Nx:Hp->Prop,(∀H',Nx H'->∃m',m'<m/\W (i+1) m' H')/\∀x H',(Its z).yld i H x H'->g x (yF σ vs) H' fun σ2 H2=>yF σ2 vs=yF σ vs/\zpj σ2 H2 fun b H3 =>
     if b=true then te σ2 H3 fun y H4=>∃acc,H4 Dl=some (.lst acc)/\acc.length<sizeLine/\Nx (upd H4 Dl (.lst (acc++[y]))) else Nx H3):=by
 have hz:z.cps.toList.length=z.cps.size:=Array.length_toList;refine⟨fun i m H=>m=z.cps.size-i/\i<=z.cps.size/\H=upd H1 Dl (.lst ((z.cps.toList.take i).map f)),⟨z.cps.size,by simp,Nat.zero_le _,rfl⟩,?_⟩;rintro i m H ⟨rfl,hi,rfl⟩;by_cases hlt:i<z.cps.size
 ·refine .inr ⟨hlt,fun H'=>H'=upd H1 Dl (.lst ((z.cps.toList.take (i+1)).map f)),fun H' p'=>⟨z.cps.size-(i+1),by omega,rfl,hlt,p'⟩,fun x H' y=>?_⟩;obtain⟨rfl,c,hc,rfl⟩:=y;have hx:z.cps.toList[i]?=some c:=by simpa using hc
  refine hg _ _ _ _ ?_ (he c _ (fun y H4=>∃acc,H4 Dl=some (.lst acc)/\acc.length<sizeLine/\upd H4 Dl (.lst (acc++[y]))=upd H1 Dl (.lst ((z.cps.toList.take (i+1)).map f)))
   ⟨_,zc,by rw[List.length_map,List.length_take];exact Nat.lt_of_le_of_lt (Nat.min_le_right _ _) (Nat.lt_of_lt_of_le hl szl),by rw[yB,zV hx,List.map_append];rfl⟩)
  rintro σ2 H2 ⟨w1,rfl,q⟩;exact⟨w1,q⟩
 ·have e:i=z.cps.size:=by omega
  subst e;refine .inl ⟨Nat.le_refl _,?_⟩;rw[<-hz,List.take_length];exact hd
end
def zh4:Sp:=fun vs H Q _=>∃(n:Int) (r s:Addr) (rs ss:List Int),vs=[.int n,.ref r,.ref s]/\H r=some (.lst (rs.map V.int))/\H s=some (.lst (ss.map V.int))/\rs.length<=100000/\ss.length<=100000 /\
 ∀(H':Hp) (p:Addr),Same H H'->H' p=some (.lst ((n::(rs.length:Int)::(rs++(ss.length:Int)::ss)).map V.int))->Q (.ref p) H'
def znz:Sp:=fun vs H Q _=>∃z:Str,vs=[.str z]/\z.cps.toList.length<1000/\∀(H':Hp) (p:Addr),Same H H'->H p=none->H' p=some (.lst (z.cps.toList.map fun n=>V.int ((n:Nat):Int)))->Q (.ref p) H'
def zpl (K:PySem.W.Frag):Sp:=fun vs H Q _=>∃(l:Addr) (b:Bd.Bytes) (c:UInt8),vs=[.ref l,.int ((c.toNat:Nat):Int)]/\SqL K H l (iB b)/\b.length<=10000 /\
 ∀(H':Hp) (p:Addr) (as:List Addr),Same H H'->H p=none->(∀x∈as,H x=none)->H' p=some (.lst (as.map V.ref))->Rows H' as (zR c b)->Q (.ref p) H'
section
variable {P:Program}{w:World}{K:PySem.W.Frag}{mg:Str->Option Value}{base:Heap}{a:Ad}{cm:Bool}
theorem zi7 (T:Txt K mg a):FnOk P w K mg base (CXo P w) cm 1 a.zfe a.zfh ["number", "row", "signs"] zh4:=by
 refine zF T.zbh.F znm (fun vs H Q E h=>?_) (fun cdv A outer s0 H vs Q E hr h=>?_)
 ·obtain⟨n,r,s,rs,ss,rfl,_⟩:=h;rfl
 ·obtain⟨n,r,s,rs,ss,rfl,h1,h2,l1,l2,k⟩:=h;refine⟨_,(zi (zL (zaF zl8 (zaF zl8 (zaF zl8 (z7 (za (pv 0) (za (zK zG rfl T.z_len yN (za (pv 1) ze)) ze))) (pv 1)) (z7 (za (zK zG rfl T.z_len yN (za (pv 2) ze)) ze))) (pv 2)))),?_⟩;have zl:=szl;refine⟨_,rfl,_,rfl,r,_,rfl,.inl (SqL.of h1),(by show 2<=sizeLine;decide),fun p1 n1=>?_⟩;have s1:Same H (upd H p1 (.lst [.int n,.int ((rs.map V.int).length:Nat)])):=(Same.refl _).new n1;refine⟨_,rfl,p1,r,_,_,rfl,rfl,zc,s1 _ _ h1,(by simp;omega),fun p2 n2=>?_⟩;have s2:=s1.new (o:=.lst ([.int n,.int ((rs.map V.int).length:Nat)]++rs.map V.int)) n2;refine⟨_,rfl,s,_,rfl,.inl (SqL.of (s2 _ _ h2)),(by show 1<=sizeLine;decide),fun p3 n3=>?_⟩;have s3:=s2.new (o:=.lst [.int ((ss.map V.int).length:Nat)]) n3;refine⟨p2,p3,_,_,rfl,rfl,(by rw[zd (zg zc n3)];exact zc),zc,(by simp;omega),fun p4 n4=>?_⟩;have s4:=s3.new (o:=.lst ([.int n,.int ((rs.map V.int).length:Nat)]++rs.map V.int++[.int ((ss.map V.int).length:Nat)])) n4;refine⟨_,rfl,p4,s,_,_,rfl,rfl,zc,s4 _ _ h2,(by simp;omega),fun p5 n5=>?_⟩;refine k _ p5 (s4.new n5) ?_;rw[zc];simp
theorem zaT (T:Txt K mg a):FnOk P w K mg base (CXo P w) true 1 a.zhJ a.zhV ["word"] znz:=by
 refine zF T.zX.F zdF (fun vs H Q E h=>?_) (fun cdv A outer s0 H vs Q E hr h=>?_)
 ·obtain⟨z,rfl,_⟩:=h;rfl
 ·obtain⟨z,rfl,hl,k⟩:=h;refine⟨_,(zi (zL (zcU takes_cx rfl rfl (own:=[("sign",1)]) rfl zdF.nd (zqs (pv 0)) (bkq ["word", "sign"] (zk ze3) [("sign",1)]) (fun s H C cl fp xe tk=>(zY (i:=1) zdF.nd rfl (lq rfl))) (fun s H C cl fp xe tk=>Zh) (fun s H C cl fp xe tk=>(zK zoh rfl T.z_ord zqy (za (pv 1) ze)))))),?_⟩;refine⟨_,rfl,z,rfl,fun Dl hD=>?_⟩;refine zm0 (fun n=>V.int ((n:Nat):Int)) (by omega) hD (fun c H' R q=>?_) (fun x H' R R' m q=>m _ _ q) ?_
  ·exact⟨rfl,rfl,_,rfl,_,rfl,rfl,q⟩
  ·exact k _ Dl ((Same.refl _).new hD) hD zc
def ziV (K:PySem.W.Frag):Sp:=fun vs H Q _=>∃(ea C d q:Addr) (fr:Bool) (tb:Value) (F:List (Str×V)) (n:Int) (ns:List Int),vs=[.ref ea]/\H ea=some (xO C fr (some d) tb ea)/\H d=some (.xd F)/\zjX K C/\NoAttr K C "number" /\ NoAttr K C "told" /\
 F.lookup ("number" : Str)=some (.int n)/\F.lookup ("told" : Str)=some (.ref q)/\H q=some (.lst (ns.map V.int))/\ns.length<=1000 /\
 ∀(H':Hp) (p:Addr),Same H H'->H' p=some (.lst ((n::(ns.length:Int)::(ns++[0])).map V.int))->Q (.ref p) H'
theorem zlp (T:Txt K mg a):FnOk P w K mg base (CXo P w) cm 2 a.zf2 a.zfX ["refusal"] (ziV K):=by
 have zhS:FnOk P w K mg base (CXo P w) cm 1 a.zfe a.zfh ["number", "row", "signs"] zh4:=zi7 T;refine zF T.zee.F zlW (fun vs H Q E h=>?_) (fun cdv A outer s0 H vs Q E hr h=>?_)
 ·obtain⟨ea,C,d,q,fr,tb,F,n,ns,rfl,_⟩:=h;rfl
 ·obtain⟨ea,C,d,q,fr,tb,F,n,ns,rfl,l1,ed,xc,na,nb,f1,f2,hq,hl,k⟩:=h;refine⟨_,(zi (zL (zD zhS hr.q rfl T.zbh.m T.zbh.F.kp T.zbh.b .nil takes_cx.passes (za (zfo (K:=K) rfl (pv 0) rfl) (za (zfo (K:=K) rfl (pv 0) rfl) (za (z7 ze) ze)))))),?_⟩;refine⟨_,rfl,ea,C,fr,d,tb,F,_,rfl,l1,ed,xc,na,f1,_,rfl,ea,C,fr,d,tb,F,_,rfl,l1,ed,xc,nb,f2,Nat.zero_le _,fun s ns'=>?_⟩;refine⟨n,q,s,ns,[],rfl,by rw[zd (zg hq ns')];exact hq,zc,by omega,by decide,fun H' p s1 e=>k H' p (fun b o z=>s1 b o (((Same.refl H).new ns') b o z)) e⟩
end
theorem znB {b:Bd.Bytes}{i:Nat}{x:V}(h:(iB b)[i]?=some x):∃c,b[i]?=some c/\x=.int ((c.toNat:Nat):Int):=by
 unfold iB at h;rw[List.getElem?_map] at h;cases e:b[i]? with
 |none=>rw[e] at h;cases h
 |some c =>
  rw[e] at h;exact⟨c,rfl,(Option.some.inj h).symm⟩
theorem zas (b:Bd.Bytes):(iB b).length=b.length:=List.length_map _
theorem zoX (b:Bd.Bytes) (c:UInt8):iB (b++[c])=iB b++[.int ((c.toNat:Nat):Int)]:=by
 unfold iB;rw[List.map_append];rfl
theorem toNat_inj {c d:UInt8}:V.int ((c.toNat:Nat):Int)=V.int ((d.toNat:Nat):Int)↔c=d:=by
 constructor
 ·intro h;have h1:((c.toNat:Nat):Int)=((d.toNat:Nat):Int):=V.int.inj h;exact UInt8.toNat_inj.mp (by omega)
 ·intro h;rw[h]
theorem zoa (c:UInt8) (t:Bd.Bytes):(fl c t).1.length<=t.length/\(fl c t).2.length<=t.length:=by
 suffices h:∀(t:Bd.Bytes) (p:List Bd.Bytes×Bd.Bytes),(t.foldl (stp c) p).1.length<=p.1.length+t.length/\(t.foldl (stp c) p).2.length<=p.2.length+t.length by
  have z:=h t ([],[]);simpa[fl] using z
 intro t
 induction t with
 |nil=>intro p;exact⟨Nat.le_refl _,Nat.le_refl _⟩
 |cons x t ih =>
  intro p;rw[List.foldl_cons];have z:=ih (stp c p x);have e:(stp c p x).1.length<=p.1.length+1/\(stp c p x).2.length<=p.2.length+1:=by
   unfold stp;by_cases q:x=c
   ·rw[if_pos q];simp
   ·rw[if_neg q];simp
  simp only[List.length_cons];omega
theorem zoU {x:V}{l:List V}:zfU (x::l) (some 1) none=l:=by
 unfold zfU;show((x::l).drop (min 1 (l.length+1))).take (l.length+1-min 1 (l.length+1))=l;rw[show min 1 (l.length+1)=1 by omega];show l.take (l.length+1-1)=l;rw[Nat.add_sub_cancel,List.take_length]
theorem zor {x:V}{l:List V}:zfU (l++[x]) none (some (-1))=l:=by
 unfold zfU;show((l++[x]).drop 0).take (((-1:Int)+((l++[x]).length:Int)).toNat-0)=l;rw[List.drop_zero,show((-1:Int)+((l++[x]).length:Int)).toNat-0=l.length by simp;omega,List.take_left'];rfl
def dI (ns:List Int):PyData:=.list (ns.map PyData.int)
theorem zmL {K:PySem.W.Frag}{H:Hp}:∀ns:List Int,zgC K H (ns.map V.int) (ns.map PyData.int)
 |[]=>.nil
 |n::r=>.cons (.int n) (zmL r)
theorem zow {K:PySem.W.Frag}{H:Hp}{p:Addr}{ns:List Int}(h:SqL K H p (ns.map V.int)):Dp K H (.ref p) (dI ns):=.lst h (zmL ns)
theorem zgl:∀ns ms:List Int,PyData.eqvAll (ns.map PyData.int) (ms.map PyData.int)=decide (ns=ms)
 |[],[]=>rfl
 |[],_::_=>rfl
 |_::_,[]=>rfl
 |n::r,m::q=>by
  have ih:=zgl r q;show(PyData.eqv (.int n) (.int m)&&PyData.eqvAll (r.map PyData.int) (q.map PyData.int))=_;rw[ih,Bool.eq_iff_iff];simp[PyData.eqv]
theorem zn7 (ns ms:List Int):PyData.eqv (dI ns) (dI ms)=decide (ns=ms):=zgl ns ms
theorem zgy:∀ns:List Int,PyData.canLayAll0 (ns.map PyData.int)=true
 |[]=>by simp[PyData.canLayAll0]
 |n::r=>by simp[PyData.canLayAll0,PyData.canLay0,zgy r]
theorem zhE:∀ns:List Int,PyData.depthAll (ns.map PyData.int)<=1
 |[]=>by simp[PyData.depthAll]
 |n::r=>by
  have ih:=zhE r;simp[PyData.depthAll,PyData.depth];omega
theorem yy (ns:List Int):SeqAt.shaped (dI ns)=true:=by
 have h1:=zgy ns;have h2:=zhE ns;have e1:PyData.canLay0 (.list (ns.map PyData.int))=PyData.canLayAll0 (ns.map PyData.int):=by simp[PyData.canLay0]
 have e2:PyData.depth (.list (ns.map PyData.int))=PyData.depthAll (ns.map PyData.int)+1:=by simp[PyData.depth]
 unfold SeqAt.shaped dI;rw[e1,h1,e2,Bool.true_and];exact decide_eq_true (by omega)
def jB (b:Bd.Bytes):List Int:=b.map fun c=>((c.toNat:Nat):Int)
theorem zhK (b:Bd.Bytes):iB b=(jB b).map V.int:=by
 unfold iB jB;rw[List.map_map];rfl
theorem jB_inj {a b:Bd.Bytes}:jB a=jB b↔a=b:=by
 constructor
 ·intro h;unfold jB at h;refine List.map_inj_right (fun x y e=>?_) |>.mp h;exact UInt8.toNat_inj.mp (by omega)
 ·intro h;rw[h]
theorem zdc {K:PySem.W.Frag}{H:Hp}{p:Addr}{b:Bd.Bytes}(h:SqL K H p (iB b)):Dp K H (.ref p) (dI (jB b)):=zow (by rw[<-zhK];exact h)
theorem zfR (a b:Bd.Bytes):PyData.eqv (dI (jB a)) (dI (jB b))=decide (a=b):=by
 rw[zn7];exact decide_eq_decide.mpr jB_inj
def zU (te:TE) (σ:L2.St) (H:Hp) (v:V):Prop:=∀R:VK,R v H->te σ H R
theorem zg8 {σ:L2.St}{H:Hp}{ta tb tc:TE}{i j k:Int}{Q:VK}(ha:zU ta σ H (.int i)) (hb:zU tb σ H (.int j)) (hc:zU tc σ H (.int k)) (h:Q (.bl (decide (i<=j)&&decide (j<=k))) H) :
  zhM (rI0 fun i j=>.bl (decide (i<=j))) (rI0 fun i j=>.bl (decide (i<=j))) ta tb tc σ H Q:=by
 refine ha _ (hb _ ⟨_,_,rfl,rfl,_,rfl,?_⟩);by_cases q:i<=j
 ·rw[decide_eq_true q] at h ⊢;exact yk (hc _ ⟨_,_,rfl,rfl,by simpa using h⟩)
 ·rw[decide_eq_false q] at h ⊢;exact yw (by simpa using h)
theorem ziM {σ:L2.St}{H:Hp}{ta tb tc:TE}{i j k:Int}{Q:Bool->Hp->Prop}(ha:zU ta σ H (.int i)) (hb:zU tb σ H (.int j)) (hc:zU tc σ H (.int k)) (h:Q (decide (i<=j)&&decide (j<=k)) H) :
  zmt (zhM (rI0 fun i j=>.bl (decide (i<=j))) (rI0 fun i j=>.bl (decide (i<=j))) ta tb tc) σ H Q:=zg8 ha hb hc ⟨_,rfl,h⟩
def zmC (tt:TT) (σ:L2.St) (H:Hp) (b:Bool):Prop:=∀R:Bool->Hp->Prop,R b H->tt σ H R
theorem zql {σ:L2.St}{H:Hp}{ta tb:TT}{x y:Bool}{Q:Bool->Hp->Prop}(ha:zmC ta σ H x) (hb:x=true->zmC tb σ H y) (h:Q (x&&y) H):zqd ta tb σ H Q:=by
 refine ha _ ?_;cases x with
 |true=>exact yk (hb rfl _ h)
 |false=>exact yw h
theorem zpV {σ:L2.St}{H:Hp}{ta tb:TT}{x y:Bool}{Q:Bool->Hp->Prop}(ha:zmC ta σ H x) (hb:x=false->zmC tb σ H y) (h:Q (x||y) H):tOr ta tb σ H Q:=by
 refine ha _ ?_;cases x with
 |true=>exact yk h
 |false=>exact yw (hb rfl _ h)
theorem zpD {σ:L2.St}{H:Hp}{ta tb:TE}{x y:Bool}{Q:VK}(ha:zU ta σ H (.bl x)) (hb:x=true->zU tb σ H (.bl y)) (h:Q (.bl (x&&y)) H):znH ta tb σ H Q:=by
 refine ha _ ⟨x,rfl,?_⟩;cases x with
 |true=>exact yk (hb rfl _ h)
 |false=>exact yw h
theorem zn1 {σ:L2.St}{H:Hp}{ta tb:TE}{x y:Bool}{Q:VK}(ha:zU ta σ H (.bl x)) (hb:x=false->zU tb σ H (.bl y)) (h:Q (.bl (x||y)) H):zqg ta tb σ H Q:=by
 refine ha _ ⟨x,rfl,?_⟩;cases x with
 |true=>exact yk h
 |false=>exact yw (hb rfl _ h)
theorem zea (c:UInt8) (t:Bd.Bytes):(zR c t).length<=t.length+1/\∀x∈zR c t,x.length<=t.length:=by
 suffices h:∀t:Bd.Bytes,(zR c t).length<=t.length+1/\∀x∈zR c t,x.length<=t.length by exact h t
 intro t
 induction t with
 |nil=>exact⟨Nat.le_refl _,fun x hx=>by rw[List.mem_singleton.mp hx];exact Nat.le_refl _⟩
 |cons d r ih =>
  obtain⟨y,l,e⟩:=yh c r;rw[e] at ih;unfold zR;rw[e];by_cases h:d=c
  ·rw[if_pos h];refine⟨by simpa using ih.1,fun x hx=>?_⟩;rcases List.mem_cons.mp hx with z|z
   ·rw[z];exact Nat.zero_le _
   ·have:=ih.2 x z;rw[List.length_cons];omega
  ·rw[if_neg h];refine⟨by have:=ih.1;simp at this ⊢;omega,fun x hx=>?_⟩;rcases List.mem_cons.mp hx with z|z
   ·rw[z];have:=ih.2 y (by simp);simp;omega
   ·have:=ih.2 x (by simp[z]);rw[List.length_cons];omega
theorem zhC {wd line:Bd.Bytes}{r:List Bd.Bytes}(h:zz wd line=some r):r.length<=line.length/\∀x∈r,x.length<=line.length:=by
 have z:=zea 32 line;unfold zz at h;obtain⟨y,l,e⟩:=yh 32 line;rw[e] at h z;dsimp only at h;by_cases q:y=wd
 ·rw[if_pos q] at h;have h':=Option.some.inj h;subst h';refine⟨by have:=z.1;simp at this;omega,fun x hx=>z.2 x (by simp[hx])⟩
 ·rw[if_neg q] at h;cases h
section
variable {P:Program}{w:World}{K:PySem.W.Frag}{mg:Str->Option Value}{base:Heap}{a:Ad}
theorem zdD (T:Txt K mg a):FnOk P w K mg base (CXo P w) true 1 a.zhv a.zhG ["row", "sign"] (zpl K):=by
 refine zF T.yL.F zdC (fun vs H Q E h=>?_) (fun cdv A outer s0 H vs Q E hr h=>?_)
 ·obtain⟨l,b,c,rfl,_⟩:=h;rfl
 ·obtain⟨l,b,c,rfl,hS,hl,k⟩:=h;have zl:=szl;refine⟨_,(zh (z6 (i:=2) zdC.nd rfl (lq rfl) (z7 (za (z7 ze) ze)))
   (zh (zcV takes_cx.po rfl (yC (pv 0)) (zY (i:=3) zdC.nd rfl (lq rfl)) (zi (yf (zH zcs (pv 3) (pv 1) (zJ _)) (zi (yr (zct PySem.F.plainAttrs_list PySem.F.slot_list_append PySem.F.type_list_append ZN (pv 2) (za (z7 ze) ze)))) (zi (yr (zct PySem.F.plainAttrs_list PySem.F.slot_list_append PySem.F.type_list_append ZN (zS zN (pv 2) (zez zb2 zq) (fun _ _=>rfl)) (za (pv 3) ze)))))))
   (zi (zL (pv 2))))),?_⟩
  refine⟨Nat.zero_le _,fun z nz=>⟨(by show 1<=sizeLine;decide),fun p np=>?_⟩⟩;have zp:z≠p:=zg (zc (H:=H) (a:=z) (o:=.lst [])) np;have np':H p=Option.none:=by
   rw[zd (Ne.symm zp)] at np;exact np
  have s0':Same H (upd (upd H z (.lst [])) p (.lst [.ref z])):=((Same.refl _).new nz).new np;refine⟨_,rfl,l,rfl,⟨_,s0'.seq hS⟩,zby (K:=K) (a:=l) (xs:=iB b) (fun i σ H'=>∃(v:Option V) (as:List Addr) (z:Addr),σ=[some (.ref l),some (.int ((c.toNat:Nat):Int)),some (.ref p),v]/\Same H H' /\
    H' p=some (.lst ((as++[z]).map V.ref))/\Rows H' as (fl c (b.take i)).1/\H' z=some (.lst (iB (fl c (b.take i)).2))/\z∉as/\p≠z/\p∉as/\(∀x∈as++[z],H x=none))
   ⟨none,[],z,rfl,s0',zc,.nil,by rw[zd zp];exact zc,by simp,Ne.symm zp,by simp,by simpa using nz⟩ (fun i σ H' _ ⟨_,_,_,_,s5,_⟩=>s5.seq hS) ?_ ?_⟩
  ·rintro i y σ H' hi ⟨v,as,z,rfl,s5,hp,hrow,hz,nza,npz,npa,fr⟩;obtain⟨d,hd,rfl⟩:=znB hi;have lt:i<b.length:=(List.getElem?_eq_some_iff.mp hd).1;have len1:=zoa c (b.take i);have lr:=Paired.length hrow;rw[List.length_take] at len1;have et:fl c (b.take (i+1))=stp c (fl c (b.take i)) d:=by rw[zV hd,zpq]
   refine⟨_,rfl,_,rfl,rfl,_,rfl,zrC (fun q=>?_) (fun q=>?_)⟩
   ·-- a new part
    have q':d=c:=toNat_inj.mp (of_decide_eq_true q);have et2:fl c (b.take (i+1))=((fl c (b.take i)).1++[(fl c (b.take i)).2],[]):=by rw[et];exact if_pos q'
    refine⟨_,rfl,.inl ⟨rfl,_,SqL.of hp⟩,Nat.zero_le _,fun z' nz'=>?_⟩;have hp':upd H' z' (.lst []) p=some (.lst ((as++[z]).map V.ref)):=by
     rw[zd (zg hp nz')];exact hp
    refine⟨p,_,_,rfl,rfl,hp',(by simp;omega),?_⟩;have z'p:z'≠p:=Ne.symm (zg hp nz');have z'z:z≠z':=zg hz nz';have nH:H z'=Option.none:=s5.free nz';have z'as:z'∉as:=fun m=>by
     have ⟨i2,hi2,e2⟩:=List.getElem_of_mem m;have hb:(fl c (b.take i)).1[i2]?=some ((fl c (b.take i)).1[i2]'(by omega)):=List.getElem?_eq_getElem _;obtain⟨a2,ha2,h2⟩:=Rows.get hrow hb;have e3:a2=z':=by
      rw[List.getElem?_eq_getElem hi2,e2] at ha2;exact(Option.some.inj ha2).symm
     rw[e3,nz'] at h2;cases h2
    refine⟨_,as++[z],z',rfl,(s5.new nz').set np',?_,?_,?_,?_,Ne.symm z'p,?_,?_⟩
    ·rw[zc,List.map_append (f:=V.ref) (l₁:=as++[z])];rfl
    ·rw[et2];have r1:Rows (upd (upd H' z' (.lst [])) p (.lst ((as++[z]).map V.ref++[.ref z']))) as (fl c (b.take i)).1:=Rows.upd (Rows.upd hrow z'as) npa;refine Paired.snoc r1 ?_;rw[zd (Ne.symm npz),zd z'z];exact hz
    ·rw[et2,zd z'p];exact zc
    ·simp only[List.mem_append,List.mem_singleton,not_or];exact⟨z'as,Ne.symm z'z⟩
    ·simp only[List.mem_append,List.mem_singleton,not_or];exact⟨npa,npz⟩
    ·intro x hx;rcases List.mem_append.mp hx with m|m
     ·exact fr x m
     ·rw[List.mem_singleton.mp m];exact nH
   ·-- one more byte
    have q':¬d=c:=fun e=>q (decide_eq_true (toNat_inj.mpr e));have et2:fl c (b.take (i+1))=((fl c (b.take i)).1,(fl c (b.take i)).2++[d]):=by rw[et];exact if_neg q'
    refine⟨_,rfl,_,rfl,p,_,_,.ref z,rfl,rfl,SqL.of hp,(by rw[List.map_append];exact zbu _ _),.inl ⟨rfl,_,SqL.of hz⟩,_,rfl,z,_,_,rfl,rfl,hz,(by rw[zas];omega),?_⟩;refine⟨_,as,z,rfl,s5.set (fr z (by simp)),?_,?_,?_,nza,npz,npa,fr⟩
    ·rw[zd npz];exact hp
    ·rw[et2];exact Rows.upd hrow nza
    ·rw[et2,zc];show some (HO.lst (iB (fl c (b.take i)).2++[.int ((d.toNat:Nat):Int)]))=some (HO.lst (iB ((fl c (b.take i)).2++[d])));rw[zoX]
  ·rintro σ H' ⟨v,as,z,rfl,s5,hp,hrow,hz,nza,npz,npa,fr⟩;rw[zas,List.take_length] at hrow hz;refine⟨_,rfl,?_⟩;refine k H' p (as++[z]) s5 np' fr hp ?_;rw[<-zfy];exact Paired.snoc hrow hz
def znD (K:PySem.W.Frag) (C:Addr):Sp:=fun vs H Q E=>∃(z:Str) (l:Addr) (wd line:Bd.Bytes),vs=[.str z,.ref l]/\z.cps.toList=wd.map (·.toNat)/\wd.length<1000/\SqL K H l (iB line)/\line.length<=10000 /\
 match zz wd line with
 |none=>Fails C E H 1
 |some r=>∀(H':Hp) (p:Addr) (as:List Addr),Same H H'->H p=none->(∀x∈as,H x=none)->H' p=some (.lst (as.map V.ref))->Rows H' as r->Q (.ref p) H'
theorem zcd (T:Txt K mg a):FnOk P w K mg base (CXo P w) true 3 a.zc7 a.zc5 ["word", "line"] (znD K a.zm):=by
 have zbr:=zdD (P:=P) (w:=w) (base:=base) T;have yX:=zaT (P:=P) (w:=w) (base:=base) T;have zf:=zy (P:=P) (w:=w) (base:=base) (cm:=true) T;refine zF T.yz.F zca (fun vs H Q E h=>?_) (fun cdv A outer s0 H vs Q E hr h=>?_)
 ·obtain⟨z,l,wd,line,rfl,_⟩:=h;rfl
 ·obtain⟨z,l,wd,line,rfl,hw,hwl,hS,hl,k⟩:=h;refine⟨_,(zh (z6 (i:=2) zca.nd rfl (lq rfl) (zD zbr hr.q rfl T.yL.m T.yL.F.kp T.yL.b .nil takes_cx.passes (za (pv 1) (za (zr (v:=.int 32) rfl T.zmB ⟨_,rfl⟩) ze))))
   (zh (yf (zH (zhc hr.units) (zS zN (pv 2) zq (fun _ _=>rfl)) (zD yX hr.q rfl T.zX.m T.zX.F.kp T.zX.b .nil takes_cx.passes (za (pv 0) ze)) (zJ _)) (zi (zQ takes_cx rfl (zP (T.zj.k0 T.zb) zf hr.q rfl T.zj.m T.zb.b takes_cx (za (zr (v:=.int 1) rfl T.yq ⟨_,rfl⟩) ze)))) zO)
   (zi (zL (zdE zfB (pv 2) (zcW zq) zkc))))),?_⟩
  refine⟨_,rfl,l,line,32,rfl,hS,hl,fun H1 p as s1 np fr hp rows=>?_⟩;obtain⟨x,r,ex⟩:=yh 32 line;rw[ex] at rows;unfold zz at k;rw[ex] at k;dsimp only at k;cases rows with
  |cons hx rr =>
   rename_i x0 as';refine⟨_,rfl,p,_,_,_,rfl,rfl,SqL.of hp,zE (j:=0) rfl,_,rfl,z,rfl,(by rw[hw,List.length_map];exact hwl),fun H2 p2 s2 n2 e2=>?_⟩;have ez:(z.cps.toList.map fun n=>V.int ((n:Nat):Int))=iB wd:=by
    rw[hw,List.map_map];rfl
   rw[ez] at e2;refine⟨_,_,zdc (SqL.of (s2 _ _ hx)),zdc (SqL.of e2),yy _,yy _,_,rfl,?_⟩;rw[zfR];by_cases q:x=wd
   ·rw[if_pos q] at k;rw[decide_eq_true q];refine yw ?_;refine⟨_,rfl,1,rfl,p,_,rfl,SqL.of (s2 _ _ hp),fun p3 n3=>?_⟩;have s3:=((s1.trans s2).new (o:=.lst (zfU (V.ref x0::as'.map V.ref) (some 1) none)) n3)
    refine k _ p3 as' s3 ((s1.trans s2).free n3) (fun y hy=>fr y (by simp[hy])) ?_ ?_
    ·rw[zc,List.map_cons,zoU]
    ·exact Rows.same (fun b o e=>by rw[zd (zg (s2 _ _ e) n3)];exact s2 _ _ e) rr
   ·rw[if_neg q] at k;rw[decide_eq_false q];refine yk ?_;exact zA T (k.same (s1.trans s2))
def zpe (K:PySem.W.Frag) (C:Addr):Sp:=fun vs H Q E=>∃(z:Str) (l:Addr) (wd line:Bd.Bytes),vs=[.str z,.ref l]/\z.cps.toList=wd.map (·.toNat)/\wd.length<1000/\SqL K H l (iB line)/\line.length<=10000 /\
 match zlM wd line with
 |none=>Fails C E H 1
 |some x=>∀(H':Hp) (p:Addr),Same H H'->H p=none->H' p=some (.lst (iB x))->x.length<=10000->Q (.ref p) H'
theorem zgY (T:Txt K mg a):FnOk P w K mg base (CXo P w) true 4 a.zdT a.zdG ["word", "line"] (zpe K a.zm):=by
 have zaZ:=zcd (P:=P) (w:=w) (base:=base) T;have zf:=zy (P:=P) (w:=w) (base:=base) (cm:=true) T;refine zF T.ZY.F zc9 (fun vs H Q E h=>?_) (fun cdv A outer s0 H vs Q E hr h=>?_)
 ·obtain⟨z,l,wd,line,rfl,_⟩:=h;rfl
 ·obtain⟨z,l,wd,line,rfl,hw,hwl,hS,hl,k⟩:=h;refine⟨_,(zh (z6 (i:=2) zc9.nd rfl (lq rfl) (zD zaZ hr.q rfl T.yz.m T.yz.F.kp T.yz.b .nil takes_cx.passes (za (pv 0) (za (pv 1) ze))))
   (zh (yf (zH zmq (zK zG rfl T.z_len yN (za (pv 2) ze)) zq (zJ _)) (zi (zQ takes_cx rfl (zP (T.zj.k0 T.zb) zf hr.q rfl T.zj.m T.zb.b takes_cx (za (zr (v:=.int 1) rfl T.yq ⟨_,rfl⟩) ze)))) zO)
   (zi (zL (zS zN (pv 2) zq (fun _ _=>rfl)))))),?_⟩
  refine⟨_,rfl,_,rfl,z,l,wd,line,rfl,hw,hwl,hS,hl,?_⟩;unfold zlM at k;cases hf:zz wd line with
  |none =>
   rw[hf] at k;exact k
  |some r =>
   rw[hf] at k;have fln:=zhC hf;intro H1 p fs s1 np fr hp rows;have fll:fs.length=r.length:=Paired.length rows;refine⟨_,rfl,p,_,rfl,.inl (SqL.of hp),rfl,_,rfl,?_⟩;by_cases h1:r.length=1
   rotate_left
   ·rw[show(!decide (V.int (((fs.map V.ref).length:Nat):Int)=V.int 1))=true by
     rw[decide_eq_false]
     ·rfl
     ·intro z;have z':=V.int.inj z;rw[List.length_map] at z';omega]
    refine yk (zA T ?_)
    match r,h1,k with
    |[],_,k=>exact k.same s1
    |[_],h1,_=>exact absurd rfl h1
    |_::_::_,_,k=>exact k.same s1
   rw[show(!decide (V.int (((fs.map V.ref).length:Nat):Int)=V.int 1))=false by
    rw[decide_eq_true]
    ·rfl
    ·rw[List.length_map,fll,h1];rfl]
   refine yw ?_;obtain⟨x,rfl⟩:∃x,r=[x]:=by
    match r,h1 with
    |[x],_=>exact⟨x,rfl⟩
   have hxl:=fln.2 x (by simp);cases rows with
   |cons hx rr =>
    cases rr;rename_i f;exact⟨_,rfl,p,_,_,_,rfl,rfl,SqL.of hp,zE (j:=0) rfl,k H1 f s1 (fr f (by simp)) hx (by omega)⟩
end
def zoF (K:PySem.W.Frag) (C:Addr):Sp:=fun vs H Q E=>∃(l:Addr) (x:Bd.Bytes),vs=[.ref l]/\SqL K H l (iB x)/\x.length<=10000 /\
 match Bd.readNumber x with
 |none=>Fails C E H 1
 |some n=>∀H':Hp,Same H H'->Q (.int ((n:Nat):Int)) H'
def zqJ (K:PySem.W.Frag) (C:Addr):Sp:=fun vs H Q E=>∃(l:Addr) (x:Bd.Bytes),vs=[.ref l]/\SqL K H l (iB x)/\x.length<=10000 /\
 match zcl x with
 |.error k=>Fails C E H k
 |.ok _=>∀H':Hp,Same H H'->Q (.ref l) H'
def zpt (K:PySem.W.Frag) (C:Addr):Sp:=fun vs H Q E=>∃(l:Addr) (x:Bd.Bytes) (least most:Nat),vs=[.ref l,.int ((least:Nat):Int),.int ((most:Nat):Int)]/\SqL K H l (iB x)/\x.length<=10000 /\
 match zgi x least most with
 |.error k=>Fails C E H k
 |.ok n=>∀H':Hp,Same H H'->Q (.int ((n:Nat):Int)) H'
def zrc (K:PySem.W.Frag) (C:Addr):Sp:=fun vs H Q E=>∃(l:Addr) (x:Bd.Bytes),vs=[.ref l]/\SqL K H l (iB x)/\x.length<=10000 /\
 match zbA x with
 |none=>Fails C E H 1
 |some n=>∀H':Hp,Same H H'->Q (.int ((n:Nat):Int)) H'
def inB (lo hi:Int):V->V
 |.int n=>.bl (decide (lo<=n)&&decide (n<=hi))
 |_=>.bl false
theorem zmD (lo hi:Int) (x:Bd.Bytes):(iB x).map (inB lo hi)=(x.map fun c=>decide (lo<=((c.toNat:Nat):Int))&&decide (((c.toNat:Nat):Int)<=hi)).map V.bl:=by
 unfold iB;rw[List.map_map,List.map_map];rfl
theorem znt (x:Bd.Bytes):((x.map fun c=>decide ((48:Int)<=((c.toNat:Nat):Int))&&decide (((c.toNat:Nat):Int)<=57)).all id)=x.all Bd.isDigit:=by
 rw[List.all_map];refine congrArg (fun f=>x.all f) (funext fun c=>?_);unfold Bd.isDigit;show(decide ((48:Int)<=((c.toNat:Nat):Int))&&decide (((c.toNat:Nat):Int)<=57))=_;rw[Bool.eq_iff_iff];simp only[Bool.and_eq_true,decide_eq_true_eq];omega
theorem znj (x:Bd.Bytes):((x.map fun c=>decide ((97:Int)<=((c.toNat:Nat):Int))&&decide (((c.toNat:Nat):Int)<=122)).all id)=x.all Bd.isSmall:=by
 rw[List.all_map];refine congrArg (fun f=>x.all f) (funext fun c=>?_);unfold Bd.isSmall;show(decide ((97:Int)<=((c.toNat:Nat):Int))&&decide (((c.toNat:Nat):Int)<=122))=_;rw[Bool.eq_iff_iff];simp only[Bool.and_eq_true,decide_eq_true_eq];omega
theorem zmg {x:Bd.Bytes}{v:V}(h:v∈iB x):∃n:Int,v=.int n:=by
 unfold iB at h;obtain⟨c,_,rfl⟩:=List.mem_map.mp h;exact⟨_,rfl⟩
section
variable {P:Program}{w:World}{K:PySem.W.Frag}{mg:Str->Option Value}{base:Heap}{a:Ad}
theorem zfn (T:Txt K mg a):FnOk P w K mg base (CXo P w) true 3 a.zgG a.zgA ["field"] (zoF K a.zm):=by
 have zf:=zy (P:=P) (w:=w) (base:=base) (cm:=true) T;refine zF T.Zm.F Zw (fun vs H Q E h=>?_) (fun cdv A outer s0 H vs Q E hr h=>?_)
 ·obtain⟨l,x,rfl,_⟩:=h;rfl
 ·obtain⟨l,x,rfl,hS,hl,k⟩:=h;rw[zix] at k;have bad:zfg x=false->Fails a.zm E H 1:=fun z=>by
   rw[if_neg (by rw[z];decide)] at k;exact k
  refine⟨_,(zh (yf (zeW (zku za4 za4 zq (zK zG rfl T.z_len yN (za (pv 0) ze)) (zr (v:=.int 5) rfl T.ziA ⟨_,rfl⟩))) (zi (zQ takes_cx rfl (zP (T.zj.k0 T.zb) zf hr.q rfl T.zj.m T.zb.b takes_cx (za (zr (v:=.int 1) rfl T.yq ⟨_,rfl⟩) ze)))) zO)
   (zh (yf (zeW (zap (zK (zl2 rfl) rfl T.z_all zlR (za (zcU takes_cx rfl rfl (own:=[("byte",1)]) rfl Zw.nd (yC (pv 0)) (bkq ["field", "byte", "number"] (zk zd6) [("byte",1)]) (fun s H C cl fp xe tk=>(zY (i:=1) Zw.nd rfl (lq rfl))) (fun s H C cl fp xe tk=>Zh) (fun s H C cl fp xe tk=>(ze7 za4 za4 (zr (v:=.int 48) rfl T.zhb ⟨_,rfl⟩) (pv 1) (zr (v:=.int 57) rfl T.zqC ⟨_,rfl⟩)))) ze)))) (zi (zQ takes_cx rfl (zP (T.zj.k0 T.zb) zf hr.q rfl T.zj.m T.zb.b takes_cx (za (zr (v:=.int 1) rfl T.yq ⟨_,rfl⟩) ze)))) zO)
   (zh (yf (PW.pt (zj2 (zH zcs (zS zN (pv 0) zq (fun _ _=>rfl)) (zr (v:=.int 48) rfl T.zhb ⟨_,rfl⟩) (zJ _)) (zg6 (zH zkz (zK zG rfl T.z_len yN (za (pv 0) ze)) zq (zJ _))))) (zi (zQ takes_cx rfl (zP (T.zj.k0 T.zb) zf hr.q rfl T.zj.m T.zb.b takes_cx (za (zr (v:=.int 1) rfl T.yq ⟨_,rfl⟩) ze)))) zO)
   (zh (z6 (i:=2) Zw.nd rfl (lq rfl) zq)
   (zh (zcV takes_cx.po rfl (yC (pv 0)) (zY (i:=1) Zw.nd rfl (lq rfl)) (zi (z6 (i:=2) Zw.nd rfl (lq rfl) (zaF zj8 (zaF zcY (zaF zp4 (pv 2) zq) (pv 1)) (zr (v:=.int 48) rfl T.zhb ⟨_,rfl⟩)))))
   (zi (zL (pv 2)))))))),?_⟩
  refine ziM (i:=1) (j:=(x.length:Nat)) (k:=5) (fun R r=>r) (fun R r=>⟨_,rfl,l,_,rfl,.inl hS,by rw[zas];exact r⟩) (fun R r=>r) ?_;by_cases h1:1<=x.length/\x.length<=5
  rotate_left
  ·rw[show(decide ((1:Int)<=((x.length:Nat):Int))&&decide (((x.length:Nat):Int)<=5))=false by
    rw[Bool.eq_false_iff];intro z;simp only[Bool.and_eq_true,decide_eq_true_eq] at z;omega]
   refine yk (zA T (bad ?_));rw[Bool.eq_false_iff];intro z;unfold zfg at z;simp only[Bool.and_eq_true,decide_eq_true_eq] at z;omega
  rw[show(decide ((1:Int)<=((x.length:Nat):Int))&&decide (((x.length:Nat):Int)<=5))=true by
   simp only[Bool.and_eq_true,decide_eq_true_eq];omega]
  refine yw ?_;refine⟨_,rfl,l,rfl,⟨_,hS⟩,fun Dl hD=>zoD (inB 48 57) hS (by rw[zas];omega) hD (fun v hv H' R q=>?_) (fun x H' R R' m q=>m _ _ q) ?_⟩
  ·obtain⟨n,rfl⟩:=zmg hv;exact⟨rfl,rfl,zg8 (fun R r=>r) (fun R r=>⟨_,rfl,r⟩) (fun R r=>r) q⟩
  rw[zmD];refine⟨Dl,_,rfl,SqL.of zc,_,rfl,?_⟩;rw[znt];have s1:Same H (upd H Dl (.lst ((x.map fun c=>decide ((48:Int)<=((c.toNat:Nat):Int))&&decide (((c.toNat:Nat):Int)<=57)).map V.bl))):=(Same.refl _).new hD;cases h2:x.all Bd.isDigit with
  |false =>
   refine yk (zA T ((bad ?_).same s1));unfold zfg;rw[h2];simp
  |true =>
   refine yw ?_;have hS1:=s1.seq hS;generalize upd H Dl (.lst ((x.map fun c=>decide ((48:Int)<=((c.toNat:Nat):Int))&&decide (((c.toNat:Nat):Int)<=57)).map V.bl))=H1 at s1 hS1;obtain⟨c0,xr,rfl⟩:∃c0 xr,x=c0::xr:=by
    cases x with
    |nil=>simp at h1
    |cons c0 xr=>exact⟨c0,xr,rfl⟩
   dsimp only[zc4,zgR,ziE];refine zql (x:=decide (V.int ((c0.toNat:Nat):Int)=V.int 48)) (y:=decide ((1:Int)<(((c0::xr).length:Nat):Int))) (fun R r=>⟨_,rfl,l,_,_,_,rfl,rfl,hS1,zE (j:=0) rfl,rfl,_,rfl,r⟩)
    (fun _ R r=>⟨_,rfl,l,_,rfl,.inl hS1,_,_,rfl,rfl,_,rfl,by rw[zas];exact r⟩) ?_
   have nn:(decide (V.int ((c0.toNat:Nat):Int)=V.int 48)&&decide ((1:Int)<(((c0::xr).length:Nat):Int)))=zb3 (c0::xr):=by
    unfold zb3;rw[Bool.eq_iff_iff];simp only[List.headD_cons,Bool.and_eq_true,beq_iff_eq,decide_eq_true_eq];have z:V.int ((c0.toNat:Nat):Int)=V.int 48↔c0=48:=toNat_inj (c:=c0) (d:=48);rw[z];refine and_congr Iff.rfl ?_;omega
   rw[nn];cases hn:zb3 (c0::xr) with
   |true=>exact yk (zA T ((bad (by unfold zfg;rw[hn];simp)).same s1))
   |false =>
    refine yw ?_;rw[if_pos (by
     unfold zfg;rw[h2,hn];simp only[Bool.and_eq_true,decide_eq_true_eq,Bool.not_false,Bool.and_true];omega)] at k
    generalize hx:c0::xr=x at *;refine⟨_,rfl,l,rfl,⟨_,hS1⟩,zby (K:=K) (a:=l) (xs:=iB x) (fun i σ H'=>∃v:Option V,σ=[some (.ref l),v,some (.int ((Bd.valueOf (x.take i):Nat):Int))]/\H'=H1)
     ⟨none,rfl,rfl⟩ (fun i σ H' _ ⟨_,_,e⟩=>by rw[e];exact hS1) ?_ ?_⟩
    ·rintro i y σ H' hi ⟨v,rfl,rfl⟩;obtain⟨d,hd,rfl⟩:=znB hi;have dd:Bd.isDigit d=true:=(List.all_eq_true.mp h2) d (List.mem_of_getElem? hd);unfold Bd.isDigit at dd;simp only[Bool.and_eq_true,decide_eq_true_eq] at dd;have vl:Bd.valueOf (x.take i)<100000:=zls _ (by rw[List.length_take];omega) (List.all_eq_true.mpr fun c hc=>(List.all_eq_true.mp h2) c (List.mem_of_mem_take hc));refine⟨_,rfl,_,_,rfl,rfl,.inl ⟨by omega,by omega⟩,_,rfl,_,_,rfl,rfl,_,_,rfl,rfl,?_⟩;refine⟨some (V.int ((d.toNat:Nat):Int)),?_,rfl⟩;rw[zV hd,zcy];show[some (V.ref l),some (V.int ((d.toNat:Nat):Int)),some (V.int (((Bd.valueOf (x.take i):Nat):Int)*10+((d.toNat:Nat):Int)-48))]=_;rw[show((Bd.valueOf (x.take i):Nat):Int)*10+((d.toNat:Nat):Int)-48=((10*Bd.valueOf (x.take i)+(d.toNat-48):Nat):Int) by omega]
    ·rintro σ H' ⟨v,rfl,rfl⟩;rw[zas,List.take_length];exact⟨_,rfl,k _ s1⟩
theorem zlQ (T:Txt K mg a):FnOk P w K mg base (CXo P w) true 3 a.zi3 a.zi1 ["field"] (zqJ K a.zm):=by
 have zf:=zy (P:=P) (w:=w) (base:=base) (cm:=true) T;refine zF T.zed.F zeR (fun vs H Q E h=>?_) (fun cdv A outer s0 H vs Q E hr h=>?_)
 ·obtain⟨l,x,rfl,_⟩:=h;rfl
 ·obtain⟨l,x,rfl,hS,hl,k⟩:=h;unfold zcl at k;refine⟨_,(zh (yf (PW.pt (ziG (zH (zlP hr.units) (pv 0) (z7 ze) (zJ _)) (zfQ (zeW (zap (zK (zl2 rfl) rfl T.z_all zlR (za (zcU takes_cx rfl rfl (own:=[("byte",1)]) rfl zeR.nd (yC (pv 0)) (bkq ["field", "byte"] (zk zfP) [("byte",1)]) (fun s H C cl fp xe tk=>(zY (i:=1) zeR.nd rfl (lq rfl))) (fun s H C cl fp xe tk=>Zh) (fun s H C cl fp xe tk=>(ze7 za4 za4 (zr (v:=.int 97) rfl T.zhA ⟨_,rfl⟩) (pv 1) (zr (v:=.int 122) rfl T.ziF ⟨_,rfl⟩)))) ze))))))) (zi (zQ takes_cx rfl (zP (T.zj.k0 T.zb) zf hr.q rfl T.zj.m T.zb.b takes_cx (za (zr (v:=.int 1) rfl T.yq ⟨_,rfl⟩) ze)))) zO)
   (zh (yf (zH zkz (zK zG rfl T.z_len yN (za (pv 0) ze)) (zr (v:=.int 15) rfl T.zeh ⟨_,rfl⟩) (zJ _)) (zi (zQ takes_cx rfl (zP (T.zj.k0 T.zb) zf hr.q rfl T.zj.m T.zb.b takes_cx (za (zr (v:=.int 2) rfl T.za1 ⟨_,rfl⟩) ze)))) zO)
   (zi (zL (pv 0))))),?_⟩
  refine⟨_,rfl,Nat.zero_le _,fun p1 n1=>?_⟩;have s1:Same H (upd H p1 (.lst [])):=(Same.refl _).new n1;have hS1:=s1.seq hS;have e1:SqL K (upd H p1 (.lst [])) p1 (iB []):=SqL.of zc;generalize upd H p1 (.lst [])=H1 at s1 hS1 e1;refine⟨_,_,zdc hS1,zdc e1,yy _,yy _,_,rfl,?_⟩;rw[zfR];by_cases h0:x=[]
  ·rw[decide_eq_true h0];rw[if_pos (.inl h0)] at k;exact yk (yk (zA T (k.same s1)))
  ·rw[decide_eq_false h0];refine yw ?_;refine⟨_,rfl,l,rfl,⟨_,hS1⟩,fun Dl hD=>zoD (inB 97 122) hS1 (by rw[zas];omega) hD (fun v hv H' R q=>?_) (fun x H' R R' m q=>m _ _ q) ?_⟩
   ·obtain⟨n,rfl⟩:=zmg hv;exact⟨rfl,rfl,zg8 (fun R r=>r) (fun R r=>⟨_,rfl,r⟩) (fun R r=>r) q⟩
   rw[zmD];refine⟨Dl,_,rfl,SqL.of zc,_,rfl,?_⟩;rw[znj];have s2:Same H (upd H1 Dl (.lst ((x.map fun c=>decide ((97:Int)<=((c.toNat:Nat):Int))&&decide (((c.toNat:Nat):Int)<=122)).map V.bl))):=s1.new hD;have hS2:=s2.seq hS;generalize upd H1 Dl (.lst ((x.map fun c=>decide ((97:Int)<=((c.toNat:Nat):Int))&&decide (((c.toNat:Nat):Int)<=122)).map V.bl))=H2 at s2 hS2;cases h2:x.all Bd.isSmall with
   |false =>
    rw[if_pos (.inr h2)] at k;exact yk (zA T (k.same s2))
   |true =>
    rw[if_neg (by rintro(z|z);exact h0 z;rw[h2] at z;cases z)] at k;refine yw ?_;refine⟨_,rfl,l,_,rfl,.inl hS2,_,_,rfl,rfl,_,rfl,?_⟩;rw[zas];by_cases h3:15<x.length
    ·rw[if_pos h3] at k;rw[decide_eq_true (show(15:Int)<((x.length:Nat):Int) by omega)];exact yk (zA T (k.same s2))
    ·rw[if_neg h3] at k;rw[decide_eq_false (show ¬(15:Int)<((x.length:Nat):Int) by omega)];exact yw ⟨_,rfl,k _ s2⟩
theorem zfK (T:Txt K mg a):FnOk P w K mg base (CXo P w) true 4 a.zcj a.zcu ["field", "least", "most"] (zpt K a.zm):=by
 have zf:=zy (P:=P) (w:=w) (base:=base) (cm:=true) T;have zdZ:=zfn (P:=P) (w:=w) (base:=base) T;refine zF T.yl.F zbW (fun vs H Q E h=>?_) (fun cdv A outer s0 H vs Q E hr h=>?_)
 ·obtain⟨l,x,m0,m,rfl,_⟩:=h;rfl
 ·obtain⟨l,x,m0,m,rfl,hS,hl,k⟩:=h;unfold zgi at k;refine⟨_,(zh (z6 (i:=3) zbW.nd rfl (lq rfl) (zD zdZ hr.q rfl T.Zm.m T.Zm.F.kp T.Zm.b .nil takes_cx.passes (za (pv 0) ze)))
   (zh (yf (zeW (zku za4 za4 (pv 1) (pv 3) (pv 2))) (zi (zQ takes_cx rfl (zP (T.zj.k0 T.zb) zf hr.q rfl T.zj.m T.zb.b takes_cx (za (zr (v:=.int 2) rfl T.za1 ⟨_,rfl⟩) ze)))) zO)
   (zi (zL (pv 3))))),?_⟩
  refine⟨_,rfl,l,x,rfl,hS,hl,?_⟩;cases hn:Bd.readNumber x with
  |none =>
   rw[hn] at k;exact k
  |some n =>
   rw[hn] at k;dsimp only at k ⊢;intro H1 s1;refine ziM (i:=(m0:Nat)) (j:=(n:Nat)) (k:=(m:Nat)) (fun R r=>⟨_,rfl,r⟩) (fun R r=>⟨_,rfl,r⟩) (fun R r=>⟨_,rfl,r⟩) ?_;by_cases q:n<m0\/m<n
   ·rw[if_pos q] at k;rw[show(decide (((m0:Nat):Int)<=((n:Nat):Int))&&decide (((n:Nat):Int)<=((m:Nat):Int)))=false by
     rw[Bool.eq_false_iff];intro z;simp only[Bool.and_eq_true,decide_eq_true_eq] at z;omega]
    exact yk (zA T (k.same s1))
   ·rw[if_neg q] at k;rw[show(decide (((m0:Nat):Int)<=((n:Nat):Int))&&decide (((n:Nat):Int)<=((m:Nat):Int)))=true by
     simp only[Bool.and_eq_true,decide_eq_true_eq];omega]
    exact yw ⟨_,rfl,k _ s1⟩
def zlc (i:Nat):Bd.Bytes:=([Bd.ascii "free",Bd.ascii "side",Bd.ascii "end"]:List Bd.Bytes).getD i []
theorem zmQ (T:Txt K mg a):FnOk P w K mg base (CXo P w) true 3 a.zkw a.zkK ["field"] (zrc K a.zm):=by
 have zf:=zy (P:=P) (w:=w) (base:=base) (cm:=true) T;have yX:=zaT (P:=P) (w:=w) (base:=base) T;refine zF T.zfH.F zgh (fun vs H Q E h=>?_) (fun cdv A outer s0 H vs Q E hr h=>?_)
 ·obtain⟨l,x,rfl,_⟩:=h;rfl
 ·obtain⟨l,x,rfl,hS,hl,k⟩:=h;refine⟨_,(zh (zcV takes_cx.po rfl (zn4 rfl T.z_enumerate (za (zr (v:=.ref a.zaJ) rfl T.zlf rfl) ze)) (zod rfl (zfC (zY (i:=1) zgh.nd rfl (lq rfl)) (zfC (zY (i:=2) zgh.nd rfl (lq rfl)) zmy))) (zi (yf (zH (zlP hr.units) (pv 0) (zD yX hr.q rfl T.zX.m T.zX.F.kp T.zX.b .nil takes_cx.passes (za (pv 2) ze)) (zJ _)) (zi (zL (pv 1))) zO)))
   (zi (zQ takes_cx rfl (zP (T.zj.k0 T.zb) zf hr.q rfl T.zj.m T.zb.b takes_cx (za (zr (v:=.int 1) rfl T.yq ⟨_,rfl⟩) ze))))),?_⟩
  refine⟨a.zaJ,_,rfl,T.zgw _,zm2 (K:=K) (a:=a.zaJ) (xs:=[.str "free",.str "side",.str "end"])
   (fun i σ H'=>∃u v:Option V,σ=[some (.ref l),u,v]/\Same H H'/\∀j<i,¬x=zlc j) ⟨none,none,rfl,(Same.refl _),fun j hj=>absurd hj (by omega)⟩ (fun i σ H' _ _=>T.zgw _) ?_ ?_⟩
  ·rintro i y σ H' t hi ⟨u,v,rfl,s1,ne⟩ ht;obtain⟨z,rfl,hz,hi3⟩:∃z:Str,y=.str z/\z.cps.toList=(zlc i).map (·.toNat)/\i<3:=by
    match i,hi with
    |0,hi=>exact⟨_,(Option.some.inj hi).symm,by decide,by decide⟩
    |1,hi=>exact⟨_,(Option.some.inj hi).symm,by decide,by decide⟩
    |2,hi=>exact⟨_,(Option.some.inj hi).symm,by decide,by decide⟩
    |i+3,hi=>simp at hi
   have wl:(zlc i).length<1000:=by
    match i,hi3 with
    |0,_=>decide
    |1,_=>decide
    |2,_=>decide
   have s2:=s1.new (o:=.tup [.int (i:Nat),.str z]) ht;refine⟨t,_,rfl,.inl (.inl zc),rfl,_,_,rfl,_,_,rfl,rfl,?_⟩;refine⟨_,rfl,_,rfl,z,rfl,(by rw[hz,List.length_map];exact wl),fun H2 p2 s3 n2 e2=>?_⟩;have ez:(z.cps.toList.map fun n=>V.int ((n:Nat):Int))=iB (zlc i):=by
    rw[hz,List.map_map];rfl
   rw[ez] at e2;refine⟨_,_,zdc ((s2.trans s3).seq hS),zdc (SqL.of e2),yy _,yy _,_,rfl,?_⟩;rw[zfR];by_cases q:x=zlc i
   ·rw[decide_eq_true q];refine yk ⟨_,rfl,?_⟩;have ek:zbA x=some i:=by
     match i,hi3,q,ne with
     |0,_,q,_=>rw[q];rfl
     |1,_,q,_=>rw[q];rfl
     |2,_,q,_=>rw[q];rfl
    rw[ek] at k;exact k _ (s2.trans s3)
   ·rw[decide_eq_false q];refine yw ⟨_,_,rfl,s2.trans s3,fun j hj=>?_⟩;by_cases e:j=i
    ·rw[e];exact q
    ·exact ne j (by omega)
  ·rintro σ H' ⟨u,v,rfl,s1,ne⟩;have ek:zbA x=none:=by
    unfold zbA;have n0:¬x=Bd.ascii "free" := ne 0 (by decide);have n1:¬x=Bd.ascii "side" := ne 1 (by decide);have n2:¬x=Bd.ascii "end" := ne 2 (by decide);rw[if_neg n0,if_neg n1,if_neg n2]
   rw[ek] at k;dsimp only[zc4,zgR];exact zA T (k.same s1)
end
def opF (o:Bd.Opening):List (Str×V):=[("x",.int ((o.x:Nat):Int)),("y",.int ((o.y:Nat):Int)),("wide",.int ((o.w:Nat):Int)),("high",.int ((o.h:Nat):Int))]
def OpAt (C:Addr) (H:Hp) (p:Addr) (o:Bd.Opening):Prop:=∃dx,H p=some (.ins C dx (opF o))
theorem OpAt.same {C:Addr}{H H':Hp}{p:Addr}{o:Bd.Opening}(s:Same H H') (h:OpAt C H p o):OpAt C H' p o:=let ⟨dx,e⟩:=h;⟨dx,s _ _ e⟩
abbrev Ops (C:Addr) (H:Hp):List Addr->List Bd.Opening->Prop:=Paired (OpAt C H)
theorem Ops.same {C:Addr}{H H':Hp}{as:List Addr}{os:List Bd.Opening}(s:Same H H') (r:Ops C H as os):Ops C H' as os:=Paired.mapP r fun _ _ h=>h.same s
theorem Paired.get {α β:Type}{F:α->β->Prop}:∀{as:List α}{bs:List β}{i:Nat}{x:α},Paired F as bs->as[i]?=some x->∃b,bs[i]?=some b/\F x b
 |_,_,_,_,.nil,h=>by simp at h
 |_,_,0,_,.cons h t,e=>by
  have e':=Option.some.inj e;subst e';exact⟨_,rfl,h⟩
 |_,_,i+1,x,.cons h t,e=>Paired.get (i:=i) (x:=x) t e
def znI (C:Addr):Sp:=fun vs H Q _=>∃(p dx l:Addr) (n0 n1 n2 n3:Nat),vs=[.ref p,.ref l]/\H p=some (.ins C dx [])/\H l=some (.lst (([n0,n1,n2,n3]:List Nat).map fun n=>V.int ((n:Nat):Int))) /\
 ∀H':Hp,H' p=some (.ins C dx (opF ⟨n0,n1,n2,n3⟩))->(∀b,b≠p->H' b=H b)->Q .non H'
def zoP (C:Addr):Sp:=fun vs H Q _=>∃(p:Addr) (o:Bd.Opening) (l n:Nat),vs=[.ref p,.int ((l:Nat):Int),.int ((n:Nat):Int)]/\OpAt C H p o/\Q (.bl (o.within l n)) H
def zok (C:Addr):Sp:=fun vs H Q _=>∃(p q:Addr) (o u:Bd.Opening),vs=[.ref p,.ref q]/\OpAt C H p o/\OpAt C H q u/\∀H':Hp,Same H H'->Q (.bl (u.before o)) H'
def zo7 (C:Addr):Sp:=fun vs H Q _=>∃(p q:Addr) (o u:Bd.Opening),vs=[.ref p,.ref q]/\OpAt C H p o/\OpAt C H q u/\Q (.bl (u.meets o)) H
section
variable {P:Program}{w:World}{K:PySem.W.Frag}{mg:Str->Option Value}{base:Heap}{a:Ad}
theorem zek (T:Txt K mg a):FnOk P w K mg base (CXo P w) true 1 a.zbo a.zbw ["self", "numbers"] (znI a.zn):=by
 refine zF T.ZL.F zei (fun vs H Q E h=>?_) (fun cdv A outer s0 H vs Q E hr h=>?_)
 ·obtain⟨p,dx,l,n0,n1,n2,n3,rfl,_⟩:=h;rfl
 ·obtain⟨p,dx,l,n0,n1,n2,n3,rfl,hp,hl,k⟩:=h;have lp:l≠p:=zbN hl hp (by intro z;cases z);refine⟨_,(zh (yM (pv 0) (zS zN (pv 1) zq (fun _ _=>rfl)) rfl)
   (zh (yM (pv 0) (zS zN (pv 1) zq (fun _ _=>rfl)) rfl)
   (zh (yM (pv 0) (zS zN (pv 1) zq (fun _ _=>rfl)) rfl)
   (zi (yM (pv 0) (zS zN (pv 1) zq (fun _ _=>rfl)) rfl))))),?_⟩
  refine⟨_,rfl,l,_,_,_,rfl,rfl,SqL.of hl,zE (j:=0) rfl,_,rfl,p,_,dx,_,rfl,hp,T.zB.c,T.Zo,(by show 0<1000;decide),?_⟩;refine⟨_,rfl,l,_,_,_,rfl,rfl,SqL.of (by rw[zd lp];exact hl),zE (j:=1) rfl,_,rfl,p,_,dx,_,rfl,zc,T.zB.c,T.Zn,(by show 1<1000;decide),?_⟩;rw[yB];refine⟨_,rfl,l,_,_,_,rfl,rfl,SqL.of (by rw[zd lp];exact hl),zE (j:=2) rfl,_,rfl,p,_,dx,_,rfl,zc,T.zB.c,T.Zu,(by show 2<1000;decide),?_⟩;rw[yB];refine⟨_,rfl,l,_,_,_,rfl,rfl,SqL.of (by rw[zd lp];exact hl),zE (j:=3) rfl,_,rfl,p,_,dx,_,rfl,zc,T.zB.c,T.Zk,(by show 3<1000;decide),?_⟩;rw[yB];exact k _ zc fun b hb=>zd hb
theorem Zz {σ:L2.St}{H:Hp}{i:Nat}{p C dx:Addr}{fs:List (Str×V)}{f:Str}{v:V}(hs:σ[i]?=some (some (.ref p))) (hp:H p=some (.ins C dx fs)) (c:Cls K C) (n:NoAttr K C f) (l:fs.lookup f=some v):zU (zcH K (zbY i) f) σ H v :=
 fun R r=>⟨_,hs,p,C,dx,fs,v,rfl,hp,c,n,l,r⟩
theorem zdQ {σ:L2.St}{H:Hp}{ta tb:TE}{i j:Int}(ha:zU ta σ H (.int i)) (hb:zU tb σ H (.int j)):zU (tOp (rI0 fun i j=>.int (i+j)) ta tb) σ H (.int (i+j)):=fun R r=>ha _ (hb _ ⟨_,_,rfl,rfl,r⟩)
theorem zi8 {σ:L2.St}{H:Hp}{ta tb:TE}{i j:Int}(ha:zU ta σ H (.int i)) (hb:zU tb σ H (.int j)):zU (tOp (rI0 fun i j=>.bl (decide (i<=j))) ta tb) σ H (.bl (decide (i<=j))):=fun R r=>ha _ (hb _ ⟨_,_,rfl,rfl,r⟩)
theorem zp1 {σ:L2.St}{H:Hp}{ta tb:TE}{i j:Int}(ha:zU ta σ H (.int i)) (hb:zU tb σ H (.int j)):zU (tOp (rI0 fun i j=>.bl (decide (j<i))) ta tb) σ H (.bl (decide (j<i))):=fun R r=>ha _ (hb _ ⟨_,_,rfl,rfl,r⟩)
theorem zfD {σ:L2.St}{H:Hp}{ta tb:TE}{x y:Bool}(ha:zU ta σ H (.bl x)) (hb:zU tb σ H (.bl y)):zU (znH ta tb) σ H (.bl (x&&y)):=fun _ r=>zpD ha (fun _=>hb) r
theorem znO {σ:L2.St}{H:Hp}{ta tb:TE}{x y:Bool}(ha:zU ta σ H (.bl x)) (hb:zU tb σ H (.bl y)):zU (zqg ta tb) σ H (.bl (x||y)):=fun _ r=>zn1 ha (fun _=>hb) r
theorem zjw {σ:L2.St}{H:Hp}{i:Nat}{v:V}(hs:σ[i]?=some (some v)):zU (zbY i) σ H v:=fun R r=>⟨v,hs,r⟩
theorem zq9 {σ:L2.St}{H:Hp}{v:V}:zU (tC v) σ H v:=fun R r=>r
theorem zcz (T:Txt K mg a):FnOk P w K mg base (CXo P w) true 1 a.zaa a.zal ["self", "length", "height"] (zoP a.zn):=by
 refine zF T.Ze.F zcB (fun vs H Q E h=>?_) (fun cdv A outer s0 H vs Q E hr h=>?_)
 ·obtain⟨p,o,l,n,rfl,_⟩:=h;rfl
 ·obtain⟨p,o,l,n,rfl,⟨dx,hp⟩,k⟩:=h;refine⟨_,(zi (zL (zhx (Zi zkz (zo (pv 0) rfl) zq (zJ _)) (zhx (Zi zkz (zo (pv 0) rfl) zq (zJ _)) (zhx (Zi za4 (zaF zcY (zo (pv 0) rfl) (zo (pv 0) rfl)) (pv 1) (zJ _)) (zeQ (Zi za4 (zaF zcY (zo (pv 0) rfl) (zo (pv 0) rfl)) (pv 2) (zJ _)))))))),?_⟩;have fx:zU (zcH K (zbY 0) "x") (start ["self", "length", "height"] [.ref p,.int ((l:Nat):Int),.int ((n:Nat):Int)]) H (.int ((o.x:Nat):Int)):=Zz rfl hp T.zB.c T.Zo rfl;have fy:zU (zcH K (zbY 0) "y") (start ["self", "length", "height"] [.ref p,.int ((l:Nat):Int),.int ((n:Nat):Int)]) H (.int ((o.y:Nat):Int)):=Zz rfl hp T.zB.c T.Zn rfl;have fw:zU (zcH K (zbY 0) "wide") (start ["self", "length", "height"] [.ref p,.int ((l:Nat):Int),.int ((n:Nat):Int)]) H (.int ((o.w:Nat):Int)):=Zz rfl hp T.zB.c T.Zu rfl;have fh:zU (zcH K (zbY 0) "high") (start ["self", "length", "height"] [.ref p,.int ((l:Nat):Int),.int ((n:Nat):Int)]) H (.int ((o.h:Nat):Int)):=Zz rfl hp T.zB.c T.Zk rfl;refine zfD (zp1 fw zq9) (zfD (zp1 fh zq9) (zfD (zi8 (zdQ fx fw) (zjw rfl)) (zi8 (zdQ fy fh) (zjw rfl)))) _ ?_;have e:(decide ((0:Int)<((o.w:Nat):Int))&&(decide ((0:Int)<((o.h:Nat):Int))&&(decide (((o.x:Nat):Int)+((o.w:Nat):Int)<=((l:Nat):Int))&&decide (((o.y:Nat):Int)+((o.h:Nat):Int)<=((n:Nat):Int)))))=o.within l n:=by
   unfold Bd.Opening.within;rw[Bool.eq_iff_iff];simp only[Bool.and_eq_true,decide_eq_true_eq];omega
  rw[e];exact k
theorem zb5 (T:Txt K mg a):FnOk P w K mg base (CXo P w) true 1 a.ZR a.ZP ["self", "other"] (zok a.zn):=by
 refine zF T.yR.F zb6 (fun vs H Q E h=>?_) (fun cdv A outer s0 H vs Q E hr h=>?_)
 ·obtain⟨p,q,o,u,rfl,_⟩:=h;rfl
 ·obtain⟨p,q,o,u,rfl,⟨dx,hp⟩,⟨dy,hq⟩,k⟩:=h;refine⟨_,(zi (zL (Zi (zqr hr.units0) (zj3 (za (zo (pv 0) rfl) (za (zo (pv 0) rfl) ze))) (zj3 (za (zo (pv 1) rfl) (za (zo (pv 1) rfl) ze))) (zJ _)))),?_⟩;refine⟨_,rfl,p,_,dx,_,_,rfl,hp,T.zB.c,T.Zn,rfl,_,rfl,p,_,dx,_,_,rfl,hp,T.zB.c,T.Zo,rfl,(by show 2<=sizeLine;decide),fun t1 n1=>?_⟩;have s1:Same H (upd H t1 (.tup [.int ((o.y:Nat):Int),.int ((o.x:Nat):Int)])):=(Same.refl _).new n1;have hq1:=s1 _ _ hq;refine⟨_,rfl,q,_,dy,_,_,rfl,hq1,T.zB.c,T.Zn,rfl,_,rfl,q,_,dy,_,_,rfl,hq1,T.zB.c,T.Zo,rfl,(by show 2<=sizeLine;decide),fun t2 n2=>?_⟩;have s2:=s1.new (o:=.tup [.int ((u.y:Nat):Int),.int ((u.x:Nat):Int)]) n2;refine⟨t1,t2,[((o.y:Nat):Int),((o.x:Nat):Int)],[((u.y:Nat):Int),((u.x:Nat):Int)],rfl,rfl,.inl (.inl (by rw[zd (zg zc n2)];exact zc)),.inl (.inl zc),?_⟩;have e:HT.lexGt [((o.y:Nat):Int),((o.x:Nat):Int)] [((u.y:Nat):Int),((u.x:Nat):Int)]=u.before o:=by
   unfold Bd.Opening.before;rw[HT.lexGt_cons,HT.lexGt_cons,HT.lexGt_nil_nil,Bool.eq_iff_iff];by_cases e1:((o.y:Nat):Int)=((u.y:Nat):Int)
   ·rw[if_pos e1];by_cases e2:((o.x:Nat):Int)=((u.x:Nat):Int)
    ·rw[if_pos e2];simp only[Bool.or_eq_true,Bool.and_eq_true,decide_eq_true_eq,beq_iff_eq];constructor
     ·intro z;cases z
     ·omega
    ·rw[if_neg e2];simp only[Bool.or_eq_true,Bool.and_eq_true,decide_eq_true_eq,beq_iff_eq];omega
   ·rw[if_neg e1];simp only[Bool.or_eq_true,Bool.and_eq_true,decide_eq_true_eq,beq_iff_eq];omega
  rw[e];exact k _ s2
theorem zgc (T:Txt K mg a):FnOk P w K mg base (CXo P w) true 1 a.zdj a.zdb ["self", "other"] (zo7 a.zn):=by
 refine zF T.zaY.F zax (fun vs H Q E h=>?_) (fun cdv A outer s0 H vs Q E hr h=>?_)
 ·obtain⟨p,q,o,u,rfl,_⟩:=h;rfl
 ·obtain⟨p,q,o,u,rfl,⟨dx,hp⟩,⟨dy,hq⟩,k⟩:=h;refine⟨_,(zh (z6 (i:=2) zax.nd rfl (lq rfl) (zmk (Zi za4 (zaF zcY (zo (pv 0) rfl) (zo (pv 0) rfl)) (zo (pv 1) rfl) (zJ _)) (zeQ (Zi za4 (zaF zcY (zo (pv 1) rfl) (zo (pv 1) rfl)) (zo (pv 0) rfl) (zJ _)))))
   (zh (z6 (i:=3) zax.nd rfl (lq rfl) (zmk (Zi za4 (zaF zcY (zo (pv 0) rfl) (zo (pv 0) rfl)) (zo (pv 1) rfl) (zJ _)) (zeQ (Zi za4 (zaF zcY (zo (pv 1) rfl) (zo (pv 1) rfl)) (zo (pv 0) rfl) (zJ _)))))
   (zi (zL (zhx (zlE (pv 2)) (zeQ (zlE (pv 3)))))))),?_⟩
  have fld:∀(σ:L2.St) (v v':Option V),σ=[some (.ref p),some (.ref q),v,v']->zU (zcH K (zbY 0) "x") σ H (.int ((o.x:Nat):Int))/\zU (zcH K (zbY 0) "y") σ H (.int ((o.y:Nat):Int))/\zU (zcH K (zbY 0) "wide") σ H (.int ((o.w:Nat):Int))/\zU (zcH K (zbY 0) "high") σ H (.int ((o.h:Nat):Int)) /\
    zU (zcH K (zbY 1) "x") σ H (.int ((u.x:Nat):Int))/\zU (zcH K (zbY 1) "y") σ H (.int ((u.y:Nat):Int))/\zU (zcH K (zbY 1) "wide") σ H (.int ((u.w:Nat):Int))/\zU (zcH K (zbY 1) "high") σ H (.int ((u.h:Nat):Int)):=by
   rintro σ v v' rfl;exact⟨Zz rfl hp T.zB.c T.Zo rfl,Zz rfl hp T.zB.c T.Zn rfl,Zz rfl hp T.zB.c T.Zu rfl,Zz rfl hp T.zB.c T.Zk rfl,
    Zz rfl hq T.zB.c T.Zo rfl,Zz rfl hq T.zB.c T.Zn rfl,Zz rfl hq T.zB.c T.Zu rfl,Zz rfl hq T.zB.c T.Zk rfl⟩
  obtain⟨f1,f2,f3,f4,g1,g2,g3,g4⟩:=fld [some (.ref p),some (.ref q),none,none] none none rfl;refine znO (zi8 (zdQ f1 f3) g1) (zi8 (zdQ g1 g3) f1) _ ?_;generalize hb1:(decide (((o.x:Nat):Int)+((o.w:Nat):Int)<=((u.x:Nat):Int))||decide (((u.x:Nat):Int)+((u.w:Nat):Int)<=((o.x:Nat):Int)))=b1;obtain⟨_,f2,_,f4,_,g2,_,g4⟩:=fld [some (.ref p),some (.ref q),some (.bl b1),none] _ none rfl;refine znO (zi8 (zdQ f2 f4) g2) (zi8 (zdQ g2 g4) f2) _ ?_;generalize hb2:(decide (((o.y:Nat):Int)+((o.h:Nat):Int)<=((u.y:Nat):Int))||decide (((u.y:Nat):Int)+((u.h:Nat):Int)<=((o.y:Nat):Int)))=b2;dsimp only[zfL,zqo];refine zfD (x:=!b1) (y:=!b2) (fun R r=>⟨_,rfl,_,rfl,r⟩) (fun R r=>⟨_,rfl,_,rfl,r⟩) _ ?_;have e:(!b1&&!b2)=u.meets o:=by
   rw[<-hb1,<-hb2];unfold Bd.Opening.meets;rw[Bool.eq_iff_iff];simp only[Bool.and_eq_true,Bool.not_eq_true',Bool.or_eq_false_iff,decide_eq_true_eq,decide_eq_false_iff_not];omega
  rw[e];exact k
end
def zmP (K:PySem.W.Frag) (C CL:Addr):Sp:=fun vs H Q E=>∃(l bl:Addr) (line:Bd.Bytes) (long high:Nat) (as:List Addr) (os:List Bd.Opening),vs=[.ref l,.int ((long:Nat):Int),.int ((high:Nat):Int),.ref bl]/\SqL K H l (iB line)/\line.length<=10000 /\
 H bl=some (.lst (as.map V.ref))/\Ops C H as os/\os.length<=8 /\
 match ZA line long high os with
 |.error k=>Fails CL E H k
 |.ok o=>∀(H':Hp) (p:Addr),Same H H'->H p=none->OpAt C H' p o->Q (.ref p) H'
theorem ziX:∀{r:List Bd.Bytes}{i:Nat}{x:Bd.Bytes},r[i]?=some x->Bd.readNumber x=none->r.mapM Bd.readNumber=none
 |[],i,x,h,_=>by simp at h
 |y::r,0,x,h,e=>by
  have h':y=x:=Option.some.inj h;subst h';rw[List.mapM_cons,e];rfl
 |y::r,i+1,x,h,e=>by
  have ih:=ziX (r:=r) (i:=i) h e;rw[List.mapM_cons,ih];cases Bd.readNumber y <;> rfl
theorem zjj:∀{r:List Bd.Bytes}{x:Bd.Bytes}{ns:List Nat}{n:Nat},r.mapM Bd.readNumber=some ns->Bd.readNumber x=some n->(r++[x]).mapM Bd.readNumber=some (ns++[n])
 |[],x,ns,n,h,e=>by
  have h':[]=ns:=Option.some.inj h;subst h';show[x].mapM Bd.readNumber=_;rw[List.mapM_cons,e];rfl
 |y::r,x,ns,n,h,e=>by
  rw[List.mapM_cons] at h;cases hy:Bd.readNumber y with
  |none=>rw[hy] at h;cases h
  |some m =>
   cases hr:r.mapM Bd.readNumber with
   |none=>rw[hy,hr] at h;cases h
   |some l =>
    rw[hy,hr] at h;have h':m::l=ns:=Option.some.inj h;subst h';show(y::(r++[x])).mapM Bd.readNumber=_;rw[List.mapM_cons,hy,zjj hr e];rfl
theorem zjB {σ:L2.St}{H:Hp}{ta tb:TT}{x y:Bool}{Q:Bool->Hp->Prop}(S:Hp->Prop) (ha:∀R:Bool->Hp->Prop,(∀H1,S H1->R x H1)->ta σ H R) (hb:x=true->∀H1,S H1->∀R:Bool->Hp->Prop,(∀H2,S H2->R y H2)->tb σ H1 R)
  (h:∀H2,S H2->Q (x&&y) H2):zqd ta tb σ H Q:=by
 refine ha _ fun H1 s1=>?_;cases x with
 |true=>exact yk (hb rfl H1 s1 _ h)
 |false=>exact yw (h H1 s1)
theorem Paired.last {α β:Type}{F:α->β->Prop}{as:List α}{bs:List β}(r:Paired F as bs) (h:bs≠[]):∃as' x bs' y,as=as'++[x]/\bs=bs'++[y]/\F x y:=by
 induction r with
 |nil=>exact absurd rfl h
 |cons f t ih =>
  rename_i x y l1 l2;cases t with
  |nil=>exact⟨[],x,[],y,rfl,rfl,f⟩
  |cons g t =>
   obtain⟨as',x',bs',y',e1,e2,q⟩:=ih (by simp);exact⟨x::as',x',y::bs',y',by rw[e1];rfl,by rw[e2];rfl,q⟩
def iN (ns:List Nat):List V:=ns.map fun n=>V.int ((n:Nat):Int)
section
variable {P:Program}{w:World}{K:PySem.W.Frag}{mg:Str->Option Value}{base:Heap}{a:Ad}
theorem ziz (T:Txt K mg a):FnOk P w K mg base (CXo P w) true 5 a.zfd a.zfr ["line", "length", "height", "before"] (zmP K a.zn a.zm):=by
 have zf:=zy (P:=P) (w:=w) (base:=base) (cm:=true) T;have zdZ:=zfn (P:=P) (w:=w) (base:=base) T;have zaZ:=zcd (P:=P) (w:=w) (base:=base) T;have zeM:=zek (P:=P) (w:=w) (base:=base) T;have zdk:=zcz (P:=P) (w:=w) (base:=base) T;have zcx:=zb5 (P:=P) (w:=w) (base:=base) T;have zgL:=zgc (P:=P) (w:=w) (base:=base) T;refine zF T.zba.F y8 (fun vs H Q E h=>?_) (fun cdv A outer s0 H vs Q E hr h=>?_)
 ·obtain⟨l,bl,line,long,high,as,os,rfl,_⟩:=h;rfl
 ·obtain⟨l,bl,line,long,high,as,os,rfl,hS,hl,hb,ho,hol,k⟩:=h;have zl:=szl;unfold ZA at k;refine⟨_,(zh (zbd (i:=4) takes_cx rfl rfl (own:=[("field",5)]) rfl y8.nd rfl rfl rfl (yC (zD zaZ hr.q rfl T.yz.m T.yz.F.kp T.yz.b .nil takes_cx.passes (za (zr (v:=.str "open") rfl T.zh5 ⟨_,rfl⟩) (za (pv 0) ze)))) (bkq ["line", "length", "height", "before", "numbers", "field", "opening", "other"] (zk zbb) [("field",5)]) (fun s H C cl fp xe tk=>(zY (i:=5) y8.nd rfl (lq rfl))) (fun s H C cl fp xe tk=>Zh) (fun s H C cl fp xe tk=>(zD zdZ hr.q rfl T.Zm.m T.Zm.F.kp T.Zm.b .nil tk.passes (za (pv 5) ze))))
   (zh (yf (zH zmq (zK zG rfl T.z_len yN (za (pv 4) ze)) zq (zJ _)) (zi (zQ takes_cx rfl (zP (T.zj.k0 T.zb) zf hr.q rfl T.zj.m T.zb.b takes_cx (za (zr (v:=.int 1) rfl T.yq ⟨_,rfl⟩) ze)))) zO)
   (zh (z6 (i:=6) y8.nd rfl (lq rfl) (zg4 (T.zB.k0 T.ZL) zeM hr.q rfl T.zB.m T.ZL.b .nil takes_cx.passes (za (pv 4) ze)))
   (zh (yf (zeW (zap (ZG (pv 6) T.zB.c T.Ze.M zdk hr.q T.Ze.b .nil takes_cx.passes (za (pv 1) (za (pv 2) ze))))) (zi (zQ takes_cx rfl (zP (T.zj.k0 T.zb) zf hr.q rfl T.zj.m T.zb.b takes_cx (za (zr (v:=.int 2) rfl T.za1 ⟨_,rfl⟩) ze)))) zO)
   (zh (yf (PW.pt (zj2 (zH (zjI hr.units0) (pv 3) (z7 ze) (zJ _)) (zg6 (zeW (zap (ZG (pv 6) T.zB.c T.yR.M zcx hr.q T.yR.b .nil takes_cx.passes (za (zS zN (pv 3) (zez zb2 zq) (fun _ _=>rfl)) ze))))))) (zi (zQ takes_cx rfl (zP (T.zj.k0 T.zb) zf hr.q rfl T.zj.m T.zb.b takes_cx (za (zr (v:=.int 3) rfl T.zhL ⟨_,rfl⟩) ze)))) zO)
   (zh (yf (zap (zK (zlD rfl) rfl T.z_any zlm (za (zcU takes_cx rfl rfl (own:=[("other",7)]) rfl y8.nd (yC (pv 3)) (bkq ["line", "length", "height", "before", "numbers", "field", "opening", "other"] (zk zbb) [("other",7)]) (fun s H C cl fp xe tk=>(zY (i:=7) y8.nd rfl (lq rfl))) (fun s H C cl fp xe tk=>Zh) (fun s H C cl fp xe tk=>(ZG (pv 6) T.zB.c T.zaY.M zgL hr.q T.zaY.b .nil tk.passes (za (pv 7) ze)))) ze))) (zi (zQ takes_cx rfl (zP (T.zj.k0 T.zb) zf hr.q rfl T.zj.m T.zb.b takes_cx (za (zr (v:=.int 4) rfl T.zfz ⟨_,rfl⟩) ze)))) zO)
   (zh (yf (zH zcs (zK zG rfl T.z_len yN (za (pv 3) ze)) (zr (v:=.int 8) rfl T.zgQ ⟨_,rfl⟩) (zJ _)) (zi (zQ takes_cx rfl (zP (T.zj.k0 T.zb) zf hr.q rfl T.zj.m T.zb.b takes_cx (za (zr (v:=.int 5) rfl T.zl0 ⟨_,rfl⟩) ze)))) zO)
   (zi (zL (pv 6)))))))))),?_⟩
  refine⟨_,rfl, "open",l,Bd.ascii "open",line,rfl,(by decide),(by decide),hS,hl,?_⟩;cases hf:zz (Bd.ascii "open") line with
  |none =>
   rw[hf] at k;exact k
  |some r =>
   rw[hf,Option.bind_some] at k;dsimp only;have fln:=zhC hf;intro H1 p fs s1 np fr hp rows;have fll:fs.length=r.length:=Paired.length rows;refine⟨p,rfl,⟨_,SqL.of hp⟩,fun Dl hD=>?_⟩;refine Z4 (K:=K) (a:=p) (xs:=fs.map V.ref) (fun i H'=>∃ns,(r.take i).mapM Bd.readNumber=some ns/\Same H1 H'/\H' Dl=some (.lst (iN ns)))
    ⟨[],rfl,(Same.refl _).new hD,zc⟩ (fun i H' _ ⟨_,_,s2,_⟩=>s2.seq (SqL.of hp)) ?_ ?_
   ·rintro i y H' hi ⟨ns,hns,s2,hDl⟩;obtain⟨f,hfi,rfl⟩:=zaD hi;obtain⟨x,hx,hfx⟩:=Paired.get rows hfi;refine⟨rfl,?_⟩;have hxl:=fln.2 x (List.mem_of_getElem? hx);refine⟨_,rfl,f,x,rfl,SqL.of (s2 _ _ hfx),(by omega),?_⟩;cases hn:Bd.readNumber x with
    |none =>
     rw[ziX hx hn] at k;exact k.same (s1.trans s2)
    |some n =>
     intro H2 s3;have nsl:ns.length<=i:=by
      have z:=zdB hns;rw[List.length_take] at z;omega
     have il:i<r.length:=(List.getElem?_eq_some_iff.mp hx).1;refine⟨_,s3 _ _ hDl,(by unfold iN;rw[List.length_map];omega),ns++[n],?_,?_,?_⟩
     ·rw[zV hx];exact zjj hns hn
     ·exact(s2.trans s3).set hD
     ·rw[zc];unfold iN;rw[List.map_append];rfl
   ·rintro H2 ⟨ns,hns,s2,hDl⟩;rw[List.length_map,fll,List.take_length] at hns;rw[hns] at k;have s12:=s1.trans s2;refine⟨_,rfl,Dl,_,rfl,.inl (SqL.of hDl),rfl,_,rfl,?_⟩;by_cases h4:ns.length=4
    rotate_left
    ·rw[show(!decide (V.int (((iN ns).length:Nat):Int)=V.int 4))=true by
      rw[decide_eq_false]
      ·rfl
      ·intro z;have z':=V.int.inj z;unfold iN at z';rw[List.length_map] at z';omega]
     refine yk (zA T ?_)
     match ns,h4,k with
     |[],_,k=>exact k.same s12
     |[_],_,k=>exact k.same s12
     |[_,_],_,k=>exact k.same s12
     |[_,_,_],_,k=>exact k.same s12
     |[_,_,_,_],h4,_=>exact absurd rfl h4
     |_::_::_::_::_::_,_,k=>exact k.same s12
    rw[show(!decide (V.int (((iN ns).length:Nat):Int)=V.int 4))=false by
     rw[decide_eq_true]
     ·rfl
     ·unfold iN;rw[List.length_map,h4];rfl]
    refine yw ?_;obtain⟨n0,n1,n2,n3,rfl⟩:∃n0 n1 n2 n3,ns=[n0,n1,n2,n3]:=by
     match ns,h4 with
     |[n0,n1,n2,n3],_=>exact⟨_,_,_,_,rfl⟩
    dsimp only at k;refine⟨_,rfl,fun x dx nx ndx dxx=>⟨x,dx,Dl,n0,n1,n2,n3,rfl,zc,?_,fun H3 e3 kp=>⟨rfl,?_⟩⟩⟩
    ·have q1:Dl≠x:=zg hDl nx;have q2:Dl≠dx:=zg hDl ndx;rw[zd q1,zd q2];exact hDl
    have s3:Same H2 H3:=fun b o e=>by
     have q1:b≠x:=zg e nx;have q2:b≠dx:=zg e ndx;rw[kp b q1,zd q1,zd q2];exact e
    have s03:=s12.trans s3;have hx:OpAt a.zn H3 x ⟨n0,n1,n2,n3⟩:=⟨dx,e3⟩
    have nxH:H x=Option.none:=s12.free nx;have hb3:=s03 _ _ hb;have ho3:=Ops.same s03 ho;generalize hoo:(⟨n0,n1,n2,n3⟩:Bd.Opening)=o at *;refine⟨_,rfl,x,dx,_,rfl,e3,rfl,_,rfl,_,rfl,x,o,long,high,rfl,hx,_,rfl,?_⟩;cases hw:o.within long high with
    |false =>
     rw[if_pos hw] at k;exact yk (zA T (k.same s03))
    |true =>
     rw[if_neg (by rw[hw];decide)] at k;refine yw ?_;have nem:(!(as.map V.ref).isEmpty)=!os.isEmpty:=by
      have z:=Paired.length ho;cases as <;> cases os <;> first|rfl|(simp at z)
     dsimp only[zc4,zgR,ziE];refine zjB (x:=!os.isEmpty) (y:=os.getLast?.any fun(p:Bd.Opening)=>!p.before o) (fun H'=>Same H3 H') (fun R r=>?_) (fun hne H4 s4 R r=>?_) fun H5 s5=>?_
     ·refine⟨_,rfl,Nat.zero_le _,fun p4 n4=>⟨bl,p4,_,rfl,rfl,SqL.of (by rw[zd (zg hb3 n4)];exact hb3),SqL.of zc,_,rfl,?_⟩⟩;rw[nem];exact r _ ((Same.refl _).new n4)
     ·have one:os≠[]:=fun z=>by rw[z] at hne;cases hne
      obtain⟨as',al,os',ol,ea,eo,hal⟩:=Paired.last ho one;obtain⟨dal,hal'⟩:=id (hal.same (s03.trans s4));refine⟨_,rfl,x,dx,_,rfl,s4 _ _ e3,rfl,_,rfl,_,rfl,bl,_,_,.ref al,rfl,rfl,SqL.of (s4 _ _ hb3),(by rw[ea,List.map_append];exact zbu _ _),x,al,o,ol,rfl,hx.same s4,⟨dal,hal'⟩,fun H5 s5=>⟨_,rfl,?_⟩⟩;have e:(os.getLast?.any fun(p:Bd.Opening)=>!p.before o)=!ol.before o:=by
       rw[eo];simp
      rw[e] at r;exact r _ (s4.trans s5)
     have s05:=s03.trans s5;have ee:(!os.isEmpty&&os.getLast?.any fun(p:Bd.Opening)=>!p.before o)=os.getLast?.any fun(p:Bd.Opening)=>!p.before o:=by
      cases os <;> rfl
     rw[ee];cases hbf:(os.getLast?.any fun(p:Bd.Opening)=>!p.before o) with
     |true =>
      rw[if_pos hbf] at k;exact yk (zA T (k.same s05))
     |false =>
      rw[if_neg (by rw[hbf];decide)] at k;refine yw ?_;refine⟨_,rfl,bl,rfl,⟨_,SqL.of (s5 _ _ hb3)⟩,fun D2 hD2=>?_⟩;have s6:∀ys,Same H5 (upd H5 D2 (.lst ys)):=fun ys=>(Same.refl _).new hD2;refine Z4 (K:=K) (a:=bl) (xs:=as.map V.ref) (fun i H'=>H'=upd H5 D2 (.lst ((os.take i).map fun u=>V.bl (u.meets o)))) rfl (fun i H' _ e=>by rw[e];exact SqL.of (s6 _ _ _ (s5 _ _ hb3))) ?_ ?_
      ·rintro i y H' hi rfl;obtain⟨f,hfi,rfl⟩:=zaD hi;obtain⟨u,hu,hfu⟩:=Paired.get ho hfi;have sa:=s05.trans (s6 ((os.take i).map fun u=>V.bl (u.meets o)));refine⟨rfl,_,rfl,x,dx,_,rfl,s6 _ _ _ (s5 _ _ e3),rfl,_,rfl,x,f,o,u,rfl,(hx.same s5).same (s6 _),hfu.same sa,?_⟩;refine⟨_,zc,(by rw[List.length_map,List.length_take];omega),?_⟩;rw[yB,zV hu,List.map_append];rfl
      ·rintro H6 rfl;rw[List.length_map,Paired.length ho,List.take_length];refine⟨D2,os.map fun u=>u.meets o,rfl,SqL.of (by rw[zc,List.map_map];rfl),_,rfl,?_⟩;have em:((os.map fun u=>u.meets o).any id)=os.any fun(p:Bd.Opening)=>p.meets o:=by
        rw[List.any_map];rfl
       rw[em];have s06:=s05.trans (s6 (os.map fun u=>V.bl (u.meets o)));have hx6:=(hx.same s5).same (s6 (os.map fun u=>V.bl (u.meets o)));cases hme:(os.any fun(p:Bd.Opening)=>p.meets o) with
       |true =>
        rw[if_pos hme] at k;exact yk (zA T (k.same s06))
       |false =>
        rw[if_neg (by rw[hme];decide)] at k;refine yw ?_;refine⟨_,rfl,bl,_,rfl,.inl (SqL.of (s06 _ _ hb)),rfl,_,rfl,?_⟩;have lo:=Paired.length ho;by_cases h8:8<=os.length
        ·rw[if_pos h8] at k;rw[decide_eq_true (show V.int (((as.map V.ref).length:Nat):Int)=V.int 8 by rw[List.length_map,lo,show os.length=8 by omega];rfl)];exact yk (zA T (k.same s06))
        ·rw[if_neg h8] at k;rw[decide_eq_false (show ¬V.int (((as.map V.ref).length:Nat):Int)=V.int 8 from fun z=>by
          have z':=V.int.inj z;rw[List.length_map] at z';omega)]
         exact yw ⟨_,rfl,k _ x s06 nxH hx6⟩
end
def HvIs (H:Hp) (v:V):HV->Prop
 |.nm b=>∃p,v=.ref p/\H p=some (.lst (iB b))
 |.num n=>v=.int ((n:Nat):Int)
theorem HvIs.same {H H':Hp}{v:V}{x:HV}(s:Same H H') (h:HvIs H v x):HvIs H' v x:=by
 cases x with
 |nm b=>obtain⟨p,e,q⟩:=h;exact⟨p,e,s _ _ q⟩
 |num n=>exact h
def zmz (v:V) (l:List Addr):Prop:=∀p,v=.ref p->p∉l
def zqF (K:PySem.W.Frag) (CL:Addr):Sp:=fun vs H Q E=>∃(i:Nat) (l:Addr) (line:Bd.Bytes),vs=[.int ((i:Nat):Int),.ref l]/\i<6/\SqL K H l (iB line)/\line.length<=10000 /\
 match yG i line with
 |.error k=>Fails CL E H k
 |.ok x=>∀(H':Hp) (v:V),Same H H'->HvIs H' v x->(∀p,v=.ref p->H p=none)->Q v H'
def zjC (i:Nat):Str:=(["wall", "long", "high", "left", "right", "reveal"]:List Str).getD i ""
theorem zge (i:Nat) (line:Bd.Bytes):yG i line=match zlM (Bd.ascii (zeK i)) line with
  |none=>.error 1
  |some x=>Zl i x:=by
 unfold yG zlM
 match zz (Bd.ascii (zeK i)) line with
 |none=>rfl
 |some []=>rfl
 |some [_]=>rfl
 |some (_::_::_)=>rfl
section
variable {P:Program}{w:World}{K:PySem.W.Frag}{mg:Str->Option Value}{base:Heap}{a:Ad}
theorem zio (T:Txt K mg a):FnOk P w K mg base (CXo P w) true 5 a.zfN a.ze8 ["number", "line"] (zqF K a.zm):=by
 have zhs:=zgY (P:=P) (w:=w) (base:=base) T;have znc:=zlQ (P:=P) (w:=w) (base:=base) T;have zci:=zfK (P:=P) (w:=w) (base:=base) T;have zn0:=zmQ (P:=P) (w:=w) (base:=base) T;refine zF T.za5.F zet (fun vs H Q E h=>?_) (fun cdv A outer s0 H vs Q E hr h=>?_)
 ·obtain⟨i,l,line,rfl,_⟩:=h;rfl
 ·obtain⟨i,l,line,rfl,hi,hS,hl,k⟩:=h;refine⟨_,(zh (z6 (i:=2) zet.nd rfl (lq rfl) (zD zhs hr.q rfl T.ZY.m T.ZY.F.kp T.ZY.b .nil takes_cx.passes (za (zS Z0 (zr (v:=.ref a.Zx) rfl T.zfc rfl) (pv 0) (fun _ _=>rfl)) (za (pv 1) ze))))
   (zh (yf (zH zcs (pv 0) zq (zJ _)) (zi (zL (zD znc hr.q rfl T.zed.m T.zed.F.kp T.zed.b .nil takes_cx.passes (za (pv 2) ze)))) zO)
   (zh (yf (zH zcs (pv 0) zq (zJ _)) (zi (zL (zD zci hr.q rfl T.yl.m T.yl.F.kp T.yl.b .nil takes_cx.passes (za (pv 2) (za zq (za (zr (v:=.int 32) rfl T.zir ⟨_,rfl⟩) ze)))))) zO)
   (zh (yf (zH zcs (pv 0) zq (zJ _)) (zi (zL (zD zci hr.q rfl T.yl.m T.yl.F.kp T.yl.b .nil takes_cx.passes (za (pv 2) (za zq (za (zr (v:=.int 8) rfl T.ziq ⟨_,rfl⟩) ze)))))) zO)
   (zi (zL (zD zn0 hr.q rfl T.zfH.m T.zfH.F.kp T.zfH.b .nil takes_cx.passes (za (pv 2) ze)))))))),?_⟩
  have hw:(zjC i).cps.toList=(Bd.ascii (zeK i)).map (·.toNat)/\(Bd.ascii (zeK i)).length<1000/\([V.str "wall",.str "long",.str "high",.str "left",.str "right",.str "reveal"]:List V)[i]?=some (.str (zjC i)):=by
   match i,hi with
   |0,_=>exact⟨by decide,by decide,rfl⟩
   |1,_=>exact⟨by decide,by decide,rfl⟩
   |2,_=>exact⟨by decide,by decide,rfl⟩
   |3,_=>exact⟨by decide,by decide,rfl⟩
   |4,_=>exact⟨by decide,by decide,rfl⟩
   |5,_=>exact⟨by decide,by decide,rfl⟩
   |n+6,h=>omega
  refine⟨_,rfl,a.Zx,_,_,_,rfl,rfl,T.zfv _,zE hw.2.2,_,rfl,zjC i,l,Bd.ascii (zeK i),line,rfl,hw.1,hw.2.1,hS,hl,?_⟩;rw[zge] at k;cases hf:zlM (Bd.ascii (zeK i)) line with
  |none =>
   rw[hf] at k;exact k
  |some x =>
   rw[hf] at k;intro H1 f s1 fH hx hxl;dsimp only at k;unfold Zl at k;refine⟨_,rfl,rfl,_,rfl,?_⟩;by_cases i0:i=0
   ·subst i0;rw[if_pos rfl] at k;refine yk ⟨_,rfl,f,x,rfl,SqL.of hx,hxl,?_⟩;cases hn:zcl x with
    |error e =>
     rw[hn] at k;exact k.same s1
    |ok b =>
     rw[hn] at k;intro H2 s2;have eb:b=x:=by
      unfold zcl at hn;by_cases q1:x=[]\/x.all Bd.isSmall=false
      ·rw[if_pos q1] at hn;cases hn
      ·rw[if_neg q1] at hn;by_cases q2:15<x.length
       ·rw[if_pos q2] at hn;cases hn
       ·rw[if_neg q2] at hn;exact(Except.ok.inj hn).symm
     subst eb;exact k H2 (.ref f) (s1.trans s2) ⟨f,rfl,s2 _ _ hx⟩ (fun q e=>by cases e;exact fH)
   ·rw[if_neg i0] at k;rw[decide_eq_false (show ¬V.int ((i:Nat):Int)=V.int 0 from fun z=>i0 (by have:=V.int.inj z;omega))];refine yw ⟨_,rfl,rfl,_,rfl,?_⟩;by_cases i1:i=1
    ·subst i1;rw[if_pos rfl] at k;refine yk ⟨_,rfl,f,x,1,32,rfl,SqL.of hx,hxl,?_⟩;cases hn:Zs x 32 with
     |error e =>
      rw[hn] at k;rw[show zgi x 1 32=.error e from hn];exact k.same s1
     |ok n =>
      rw[hn] at k;rw[show zgi x 1 32=.ok n from hn];exact fun H2 s2=>k H2 _ (s1.trans s2) rfl (fun q e=>nomatch e)
    ·rw[if_neg i1] at k;rw[decide_eq_false (show ¬V.int ((i:Nat):Int)=V.int 1 from fun z=>i1 (by have:=V.int.inj z;omega))];refine yw ⟨_,rfl,rfl,_,rfl,?_⟩;by_cases i2:i=2
     ·subst i2;rw[if_pos rfl] at k;refine yk ⟨_,rfl,f,x,1,8,rfl,SqL.of hx,hxl,?_⟩;cases hn:Zs x 8 with
      |error e =>
       rw[hn] at k;rw[show zgi x 1 8=.error e from hn];exact k.same s1
      |ok n =>
       rw[hn] at k;rw[show zgi x 1 8=.ok n from hn];exact fun H2 s2=>k H2 _ (s1.trans s2) rfl (fun q e=>nomatch e)
     ·rw[if_neg i2] at k;rw[decide_eq_false (show ¬V.int ((i:Nat):Int)=V.int 2 from fun z=>i2 (by have:=V.int.inj z;omega))];refine yw ⟨_,rfl,f,x,rfl,SqL.of hx,hxl,?_⟩;cases hn:zbA x with
      |none =>
       rw[hn] at k;exact k.same s1
      |some n =>
       rw[hn] at k;exact fun H2 s2=>k H2 _ (s1.trans s2) rfl (fun q e=>nomatch e)
end
theorem Paired.getR {α β:Type}{F:α->β->Prop}:∀{as:List α}{bs:List β}{i:Nat}{y:β},Paired F as bs->bs[i]?=some y->∃x,as[i]?=some x/\F x y
 |_,_,_,_,.nil,h=>by simp at h
 |_,_,0,_,.cons h t,e=>by
  have e':=Option.some.inj e;subst e';exact⟨_,rfl,h⟩
 |_,_,i+1,x,.cons h t,e=>Paired.getR (i:=i) t e
def Kinds (h:List HV):Prop:=∀(n:Nat) (x:HV),h[n]?=some x->if n=0 then ∃b,x=.nm b else ∃m,x=.num m
theorem Kinds.snoc {h:List HV}{x:HV}{line:Bd.Bytes}(k:Kinds h) (e:yG h.length line=.ok x):Kinds (h++[x]):=by
 intro n y hy;by_cases hn:n<h.length
 ·rw[List.getElem?_append_left hn] at hy;exact k n y hy
 ·have en:n=h.length:=by
   have z:=(List.getElem?_eq_some_iff.mp hy).1;simp at z;omega
  subst en;rw[List.getElem?_append_right (Nat.le_refl _),Nat.sub_self] at hy;obtain rfl:x=y:=Option.some.inj hy;unfold yG at e;generalize zz (Bd.ascii (zeK h.length)) line=r at e
  match r,e with
  |none,e=>cases e
  |some [],e=>cases e
  |some (_::_::_),e=>cases e
  |some [z],e =>
   dsimp only at e;unfold Zl at e;by_cases h0:h.length=0
   ·rw[if_pos h0] at e ⊢;cases q:zcl z with
    |error k=>rw[q] at e;cases e
    |ok b=>rw[q] at e;exact⟨b,(Except.ok.inj e).symm⟩
   ·rw[if_neg h0] at e ⊢;by_cases h1:h.length=1
    ·rw[if_pos h1] at e;cases q:Zs z 32 with
     |error k=>rw[q] at e;cases e
     |ok b=>rw[q] at e;exact⟨b,(Except.ok.inj e).symm⟩
    ·rw[if_neg h1] at e;by_cases h2:h.length=2
     ·rw[if_pos h2] at e;cases q:Zs z 8 with
      |error k=>rw[q] at e;cases e
      |ok b=>rw[q] at e;exact⟨b,(Except.ok.inj e).symm⟩
     ·rw[if_neg h2] at e;cases q:zbA z with
      |none=>rw[q] at e;cases e
      |some b=>rw[q] at e;exact⟨b,(Except.ok.inj e).symm⟩
theorem Kinds.num {h:List HV}(k:Kinds h) {n:Nat}(hn:n<h.length) (h0:n≠0):∃m,h[n]?=some (.num m)/\Wm.numAt h n=m:=by
 have e:h[n]?=some h[n]:=List.getElem?_eq_getElem hn;have z:=k n _ e;rw[if_neg h0] at z;obtain⟨m,z⟩:=z;rw[z] at e;exact⟨m,e,by unfold Wm.numAt;rw[e]⟩
theorem zm4 {h h':List HV}{os os':List Bd.Opening}{line:Bd.Bytes}(e:Zy h os line=.ok (h',os')) (kd:Kinds h) (h6:h.length<=6) (o8:os.length<=8):h'.length<=6/\os'.length<=8/\Kinds h':=by
 unfold Zy at e;by_cases q:h.length<6
 ·rw[if_pos q] at e;cases hb:yG h.length line with
  |error k=>rw[hb] at e;cases e
  |ok v =>
   rw[hb] at e;have e':(h++[v],os)=(h',os'):=Except.ok.inj e;obtain⟨rfl,rfl⟩:=Prod.mk.inj e';exact⟨by simp;omega,o8,kd.snoc hb⟩
 ·rw[if_neg q] at e;cases hb:ZA line (Wm.numAt h 1) (Wm.numAt h 2) os with
  |error k=>rw[hb] at e;cases e
  |ok p =>
   rw[hb] at e;have e':(h,os++[p])=(h',os'):=Except.ok.inj e;obtain⟨rfl,rfl⟩:=Prod.mk.inj e';refine⟨h6,?_,kd⟩;have lt:¬8<=os.length:=fun z=>by
    unfold ZA at hb;generalize ((zz (Bd.ascii "open") line).bind fun r=>r.mapM Bd.readNumber)=r at hb
    match r,hb with
    |none,hb=>cases hb
    |some [],hb=>cases hb
    |some [_],hb=>cases hb
    |some [_,_],hb=>cases hb
    |some [_,_,_],hb=>cases hb
    |some (_::_::_::_::_::_),hb=>cases hb
    |some [x0,x1,x2,x3],hb =>
     dsimp only at hb;by_cases q1:Bd.Opening.within ⟨x0,x1,x2,x3⟩ (Wm.numAt h 1) (Wm.numAt h 2)=false
     ·rw[if_pos q1] at hb;cases hb
     ·rw[if_neg q1] at hb;by_cases q2:(os.getLast?.any fun(p:Bd.Opening)=>!p.before ⟨x0,x1,x2,x3⟩)=true
      ·rw[if_pos q2] at hb;cases hb
      ·rw[if_neg q2] at hb;by_cases q3:(os.any fun(p:Bd.Opening)=>p.meets ⟨x0,x1,x2,x3⟩)=true
       ·rw[if_pos q3] at hb;cases hb
       ·rw[if_neg q3,if_pos z] at hb;cases hb
   simp;omega
theorem zjn {σ:L2.St}{H:Hp}{ta tb:TT}{x y:Bool}{Q:Bool->Hp->Prop}(S:Hp->Prop) (ha:∀R:Bool->Hp->Prop,(∀H1,S H1->R x H1)->ta σ H R) (hb:x=false->∀H1,S H1->∀R:Bool->Hp->Prop,(∀H2,S H2->R y H2)->tb σ H1 R)
  (h:∀H2,S H2->Q (x||y) H2):tOr ta tb σ H Q:=by
 refine ha _ fun H1 s1=>?_;cases x with
 |true=>exact yk (h H1 s1)
 |false=>exact yw (hb rfl H1 s1 _ h)
def wrF (pl ph po:Addr):List (Str×V):=[("lines",.ref pl),("head",.ref ph),("openings",.ref po)]
structure WRd (Z:List Addr) (CR CO:Addr) (H:Hp) (r dx pl ph po:Addr) (hvs:List V) (as las:List Addr) (s:WS):Prop where
 ob:H r=some (.ins CR dx (wrF pl ph po))
 hd:H ph=some (.lst hvs)
 hv:Paired (HvIs H) hvs s.1
 off:∀v∈hvs,zmz v Z
 op:H po=some (.lst (as.map V.ref))
 os:Ops CO H as s.2.1
 ln:H pl=some (.lst (las.map V.ref))
 rows:Rows H las s.2.2
 lo:∀x∈las,x∉Z
 z1:pl∈Z
 z2:ph∈Z
 z3:po∈Z
 n1:pl≠ph
 n2:pl≠po
 n3:ph≠po
 h6:s.1.length<=6
 o8:s.2.1.length<=8
 l14:s.2.2.length=s.1.length+s.2.1.length
 kd:Kinds s.1
def WRz (Z:List Addr) (CR CO:Addr) (H:Hp) (X:List Addr) (r:Addr) (s:WS):Prop:=∃(dx pl ph po:Addr) (hvs:List V) (as las:List Addr),X=[pl,ph,po]/\WRd Z CR CO H r dx pl ph po hvs as las s
def WR (CR CO:Addr) (H:Hp) (X:List Addr) (r:Addr) (s:WS):Prop:=WRz X CR CO H X r s
theorem WRd.keep {Z:List Addr}{CR CO:Addr}{H H':Hp}{r dx pl ph po:Addr}{hvs:List V}{as las:List Addr}{s:WS}(U:WRd Z CR CO H r dx pl ph po hvs as las s) (k:Same H H'):WRd Z CR CO H' r dx pl ph po hvs as las s :=
 ⟨k _ _ U.ob,k _ _ U.hd,Paired.mapP U.hv fun _ _ h=>h.same k,U.off,k _ _ U.op,Ops.same k U.os,k _ _ U.ln,Rows.same k U.rows,U.lo,U.z1,U.z2,U.z3,U.n1,U.n2,U.n3,U.h6,U.o8,U.l14,U.kd⟩
theorem zfk {H:Hp}{p:Addr}{o:HO}{X:List Addr}(hp:p∈X):∀{l1:List V}{l2:List HV},Paired (HvIs H) l1 l2->(∀v∈l1,zmz v X)->Paired (HvIs (upd H p o)) l1 l2
 |_,_,.nil,_=>.nil
 |_,_,.cons (b:=z) f t,off=>.cons (match z,f with
   |.nm b,⟨q,e,f⟩=>⟨q,e,by rw[zd (fun z=>off _ (by simp) q e (by rw[z];exact hp))];exact f⟩
   |.num n,f=>f) (zfk hp t fun v hv=>off v (by simp[hv]))
theorem zmE {CO:Addr}{H:Hp}{p:Addr}{xs ys:List V}(hp:H p=some (.lst xs)):∀{as:List Addr}{os:List Bd.Opening},Ops CO H as os->Ops CO (upd H p (.lst ys)) as os :=
 fun r=>Paired.mapP r fun q o ⟨dq,e⟩=>⟨dq,by rw[zd (zbN e hp (by intro z;cases z))];exact e⟩
def zjr {S:Type}(Rd:Hp->List Addr->Addr->S->Prop) (step:S->Bd.Bytes->Except Nat S) (CL:Addr):Sp:=fun vs H Q E=>∃(r l:Addr) (X:List Addr) (s:S) (line:Bd.Bytes),vs=[.ref r,.ref l]/\Rd H X r s/\H l=some (.lst (iB line))/\l∉X/\line.length<=10000 /\
 match step s line with
 |.error k=>Fails CL E H k
 |.ok s'=>∀(H':Hp) (X':List Addr),(∀b o,H b=some o->b∉X->H' b=some o)->Rd H' X' r s'->(∀x∈X',x∈X\/H x=none)->Q .non H'
def zjM {S:Type}(Rd:Hp->List Addr->Addr->S->Prop) (fin:S->Bd.Bytes->Option Nat) (CL:Addr):Sp:=fun vs H Q E=>∃(r l:Addr) (X:List Addr) (s:S) (line:Bd.Bytes),vs=[.ref r,.ref l]/\Rd H X r s/\H l=some (.lst (iB line))/\line.length<=10000 /\
 match fin s line with
 |some k=>Fails CL E H k
 |none=>∀H':Hp,Same H H'->Q .non H'
def zpE (CR CO CL:Addr):Sp:=fun vs H Q E=>∃(r l:Addr) (Z X:List Addr) (s:WS) (line:Bd.Bytes),vs=[.ref r,.ref l]/\WRz Z CR CO H X r s/\(∀z∈Z,H z≠none)/\H l=some (.lst (iB line))/\l∉Z/\line.length<=10000 /\
 match yJ s line with
 |.error k=>Fails CL E H k
 |.ok s'=>∀H':Hp,(∀b o,H b=some o->b∉X->H' b=some o)->WRz Z CR CO H' X r s'->Q .non H'
def znr (CR CO:Addr):Sp:=fun vs H Q _=>∃(r:Addr) (Z X:List Addr) (s:WS),vs=[.ref r]/\WRz Z CR CO H X r s/\Q (.bl (decide (s.1.length=6))) H
def znL (CR CO:Addr):Sp:=fun vs H Q _=>∃(r dx:Addr),vs=[.ref r]/\H r=some (.ins CR dx []) /\
 ∀(H':Hp) (X:List Addr),(∀b o,H b=some o->b≠r->H' b=some o)->WR CR CO H' X r ([],[],[])->(∀x∈X,H x=none)->Q .non H'
def wlF (v0 v1 v2 v3 v4 v5 v6:V):List (Str×V):=[("name",v0),("length",v1),("height",v2),("left",v3),("right",v4),("reveal",v5),("openings",v6)]
def zlT (C:Addr):Sp:=fun vs H Q _=>∃(p dx hd op:Addr) (v0 v1 v2 v3 v4 v5:V),vs=[.ref p,.ref hd,.ref op]/\H p=some (.ins C dx [])/\H hd=some (.lst [v0,v1,v2,v3,v4,v5]) /\
 ∀H':Hp,H' p=some (.ins C dx (wlF v0 v1 v2 v3 v4 v5 (.ref op)))->(∀b,b≠p->H' b=H b)->Q .non H'
def WallAt (CW CO:Addr) (H:Hp) (p:Addr) (h:List HV) (os:List Bd.Opening):Prop:=∃(dx op:Addr) (v0 v1 v2 v3 v4 v5:V) (as:List Addr),H p=some (.ins CW dx (wlF v0 v1 v2 v3 v4 v5 (.ref op)))/\Paired (HvIs H) [v0,v1,v2,v3,v4,v5] h/\H op=some (.lst (as.map V.ref))/\Ops CO H as os
section
variable {P:Program}{w:World}{K:PySem.W.Frag}{mg:Str->Option Value}{base:Heap}{a:Ad}
theorem zcG (T:Txt K mg a):FnOk P w K mg base (CXo P w) true 1 a.zai a.zao ["self"] (znL a.zw a.zn):=by
 refine zF T.Zb.F zc0 (fun vs H Q E h=>?_) (fun cdv A outer s0 H vs Q E hr h=>?_)
 ·obtain⟨r,dx,rfl,_⟩:=h;rfl
 ·obtain⟨r,dx,rfl,hp,k⟩:=h;refine⟨_,(zh (yM (pv 0) (z7 ze) rfl)
   (zh (yM (pv 0) (z7 ze) rfl)
   (zi (yM (pv 0) (z7 ze) rfl)))),?_⟩
  refine⟨Nat.zero_le _,fun pl npl=>⟨_,rfl,r,_,dx,_,rfl,by rw[zd (zg hp npl)];exact hp,T.zx.c,T.yU,(by show 0<1000;decide),?_⟩⟩;have rl:r≠pl:=zg hp npl;refine⟨Nat.zero_le _,fun ph nph=>⟨_,rfl,r,_,dx,_,rfl,by rw[zd (zg zc nph)];exact zc,T.zx.c,T.zT,(by show 1<1000;decide),?_⟩⟩;have rh:r≠ph:=zg zc nph;have lh:pl≠ph:=fun e=>by
   rw[zd (Ne.symm rh),<-e,zc] at nph;cases nph
  refine⟨Nat.zero_le _,fun po npo=>⟨_,rfl,r,_,dx,_,rfl,by rw[zd (zg zc npo)];exact zc,T.zx.c,T.yH,(by show 2<1000;decide),?_⟩⟩;have ro:r≠po:=zg zc npo;rw[zd (Ne.symm ro)] at npo;have ho:ph≠po:=fun e=>by
   rw[<-e,zc] at npo;cases npo
  rw[zd (Ne.symm ho),zd (Ne.symm ro)] at npo;have lo:pl≠po:=fun e=>by
   rw[<-e,zc] at npo;cases npo
  rw[zd (Ne.symm lo)] at npo;rw[zd (Ne.symm rh),zd (Ne.symm lh)] at nph;refine k _ [pl,ph,po] (fun b o e br=>?_) ⟨dx,pl,ph,po,[],[],[],rfl,?_,?_,.nil,(by simp),?_,.nil,?_,.nil,(by simp),(by simp),(by simp),(by simp),lh,lo,ho,by decide,by decide,rfl,fun n x e=>by simp at e⟩ ?_
  ·rw[zd br,zd (zg e npo),zd br,zd (zg e nph),zd br,zd (zg e npl)];exact e
  ·rw[zc];rfl
  ·rw[zd (Ne.symm rh),zd ho,zd (Ne.symm rh),zc]
  ·rw[zd (Ne.symm ro),zc];rfl
  ·rw[zd (Ne.symm rl),zd lo,zd (Ne.symm rl),zd lh,zd (Ne.symm rl),zc];rfl
  ·intro x hx;simp only[List.mem_cons,List.mem_nil_iff,or_false] at hx;rcases hx with rfl|rfl|rfl
   ·exact npl
   ·exact nph
   ·exact npo
theorem Z5 (T:Txt K mg a):FnOk P w K mg base (CXo P w) true 1 a.zae a.zaj ["self"] (znr a.zw a.zn):=by
 refine zF T.yi.F zcS (fun vs H Q E h=>?_) (fun cdv A outer s0 H vs Q E hr h=>?_)
 ·obtain⟨r,Z,X,s,rfl,_⟩:=h;rfl
 ·obtain⟨r,Z,X,s,rfl,⟨dx,pl,ph,po,hvs,as,las,rfl,U⟩,k⟩:=h;refine⟨_,(zi (zL (Zi zcs (zK zG rfl T.z_len yN (za (zo (pv 0) rfl) ze)) (zK zG rfl T.z_len yN (za (zr (v:=.ref a.Zx) rfl T.zfc rfl) ze)) (zJ _)))),?_⟩;refine⟨_,rfl,r,_,dx,_,_,rfl,U.ob,T.zx.c,T.zT,rfl,ph,_,rfl,.inl (SqL.of U.hd),a.Zx,_,rfl,.inr (T.zfv _),rfl,?_⟩;have len:hvs.length=s.1.length:=Paired.length U.hv;have e:decide (V.int ((hvs.length:Nat):Int)=V.int ((([V.str "wall",.str "long",.str "high",.str "left",.str "right",.str "reveal"]:List V).length:Nat):Int))=decide (s.1.length=6):=by
   rw[len];refine decide_eq_decide.mpr ⟨fun q=>?_,fun q=>by rw[q];rfl⟩;have q':((s.1.length:Nat):Int)=6:=V.int.inj q;omega
  rw[e];exact k
theorem za2 (T:Txt K mg a):FnOk P w K mg base (CXo P w) true 6 a.zbO a.zbQ ["self", "line"] (zpE a.zw a.zn a.zm):=by
 have Zd:=Z5 (P:=P) (w:=w) (base:=base) T;have zjT:=zio (P:=P) (w:=w) (base:=base) T;have zjt:=ziz (P:=P) (w:=w) (base:=base) T;refine zF T.yd.F zeI (fun vs H Q E h=>?_) (fun cdv A outer s0 H vs Q E hr h=>?_)
 ·obtain⟨r,l,Z,X,s,line,rfl,_⟩:=h;rfl
 ·obtain⟨r,l,Z,X,⟨h,os,ls⟩,line,rfl,⟨dx,pl,ph,po,hvs,as,las,rfl,U⟩,hZ,hL,nl,hl,k⟩:=h;have zl:=szl;have len:hvs.length=h.length:=Paired.length U.hv;have leno:as.length=os.length:=Paired.length U.os;have lenl:las.length=ls.length:=Paired.length U.rows;have h6:h.length<=6:=U.h6;have o8:os.length<=8:=U.o8;have l14:ls.length=h.length+os.length:=U.l14;have kd:Kinds h:=U.kd;refine⟨_,(zh (yf (zap (zco (pv 0) T.zx.c T.yi.M Zd hr.q T.yi.b .nil takes_cx.passes)) (zi (yr (zct PySem.F.plainAttrs_list PySem.F.slot_list_append PySem.F.type_list_append ZN (zo (pv 0) rfl) (za (zD zjt hr.q rfl T.zba.m T.zba.F.kp T.zba.b .nil takes_cx.passes (za (pv 1) (za (zS zN (zo (pv 0) rfl) zq (fun _ _=>rfl)) (za (zS zN (zo (pv 0) rfl) zq (fun _ _=>rfl)) (za (zo (pv 0) rfl) ze))))) ze)))) (zi (yr (zct PySem.F.plainAttrs_list PySem.F.slot_list_append PySem.F.type_list_append ZN (zo (pv 0) rfl) (za (zD zjT hr.q rfl T.za5.m T.za5.F.kp T.za5.b .nil takes_cx.passes (za (zK zG rfl T.z_len yN (za (zo (pv 0) rfl) ze)) (za (pv 1) ze))) ze)))))
   (zi (yr (zct PySem.F.plainAttrs_list PySem.F.slot_list_append PySem.F.type_list_append ZN (zo (pv 0) rfl) (za (pv 1) ze))))),?_⟩
  refine⟨_,rfl,r,dx,_,rfl,U.ob,rfl,r,Z,_,_,rfl,⟨dx,pl,ph,po,hvs,as,las,rfl,U⟩,_,rfl,?_⟩;unfold yJ Zy at k;dsimp only at k ⊢;by_cases hlt:h.length<6
  ·rw[if_pos hlt] at k;rw[decide_eq_false (show ¬h.length=6 by omega)];refine yw ⟨_,rfl,r,_,dx,_,_,rfl,U.ob,T.zx.c,T.zT,rfl,.inl ⟨rfl,_,SqL.of U.hd⟩,_,rfl,r,_,dx,_,_,rfl,U.ob,T.zx.c,T.zT,rfl,ph,_,rfl,.inl (SqL.of U.hd),_,rfl,h.length,l,line,(by rw[len];rfl),hlt,SqL.of hL,hl,?_⟩;cases hb:yG h.length line with
   |error e =>
    rw[hb] at k;exact k
   |ok x =>
    rw[hb] at k;intro H1 v s1 hv fresh;have U1:=U.keep s1;refine⟨ph,hvs,v,rfl,rfl,U1.hd,(by omega),?_⟩;have hvne:zmz v Z:=fun p e m=>hZ p m (fresh p e);have nr:r≠ph:=zbN U1.ob U1.hd (by intro z;cases z);have e2:upd H1 ph (.lst (hvs++[v])) pl=some (.lst (las.map V.ref)):=by rw[zd U.n1];exact U1.ln
    have ob2:upd H1 ph (.lst (hvs++[v])) r=some (.ins a.zw dx (wrF pl ph po)):=by rw[zd nr];exact U1.ob
    refine⟨_,rfl,r,_,dx,_,_,rfl,ob2,T.zx.c,T.yU,rfl,.inl ⟨rfl,_,SqL.of e2⟩,_,rfl,pl,_,_,rfl,rfl,e2,(by rw[List.length_map];omega),?_⟩;have nrl:r≠pl:=zbN U1.ob U1.ln (by intro z;cases z);have hv2:HvIs (upd (upd H1 ph (.lst (hvs++[v]))) pl (.lst (las.map V.ref++[.ref l]))) v x:=by
     cases x with
     |nm b =>
      obtain⟨p,e,q⟩:=hv;refine⟨p,e,?_⟩;have m:=hvne p e;rw[zd (fun z=>m (by rw[z];exact U.z1)),zd (fun z=>m (by rw[z];exact U.z2))];exact q
     |num n=>exact hv
    refine k _ (fun b o e n=>?_) ⟨dx,pl,ph,po,hvs++[v],as,las++[l],rfl,?_,?_,?_,?_,?_,?_,?_,?_,?_,U.z1,U.z2,U.z3,U.n1,U.n2,U.n3,?_,o8,?_,kd.snoc hb⟩
    ·simp only[List.mem_cons,List.mem_nil_iff,or_false,not_or] at n;rw[zd n.1,zd n.2.1];exact s1 b o e
    ·rw[zd nrl,zd nr];exact U1.ob
    ·rw[zd (Ne.symm U.n1)];exact zc
    ·exact Paired.snoc (zfk (X:=Z) U.z1 (zfk (X:=Z) U.z2 U1.hv U.off) U.off) hv2
    ·intro y hy;rcases List.mem_append.mp hy with m|m
     ·exact U.off y m
     ·rw[List.mem_singleton.mp m];exact hvne
    ·rw[zd (Ne.symm U.n2),zd (Ne.symm U.n3)];exact U1.op
    ·exact zmE e2 (zmE U1.hd U1.os)
    ·rw[zc,List.map_append];rfl
    ·refine Paired.snoc (Rows.upd (Rows.upd U1.rows fun m=>U.lo _ m U.z2) fun m=>U.lo _ m U.z1) ?_;rw[zd (fun z=>nl (by rw[z];exact U.z1)),zd (fun z=>nl (by rw[z];exact U.z2))];exact s1 _ _ hL
    ·intro y hy;rcases List.mem_append.mp hy with m|m
     ·exact U.lo y m
     ·rw[List.mem_singleton.mp m];exact nl
    ·simp;omega
    ·simp;omega
  ·rw[if_neg hlt] at k;have e6:h.length=6:=by omega
   rw[decide_eq_true e6];obtain⟨m1,q1,e1⟩:=kd.num (n:=1) (by omega) (by decide);obtain⟨m2,q2,e2''⟩:=kd.num (n:=2) (by omega) (by decide);rw[e1,e2''] at k;obtain⟨v1,g1,r1⟩:=Paired.getR U.hv q1;obtain⟨v2,g2,r2⟩:=Paired.getR U.hv q2;obtain rfl:v1=.int ((m1:Nat):Int):=r1;obtain rfl:v2=.int ((m2:Nat):Int):=r2;refine yk ⟨_,rfl,r,_,dx,_,_,rfl,U.ob,T.zx.c,T.yH,rfl,.inl ⟨rfl,_,SqL.of U.op⟩,_,rfl,_,rfl,r,_,dx,_,_,rfl,U.ob,T.zx.c,T.zT,rfl,ph,_,_,_,rfl,rfl,SqL.of U.hd,zE (j:=1) g1,_,rfl,r,_,dx,_,_,rfl,U.ob,T.zx.c,T.zT,rfl,ph,_,_,_,rfl,rfl,SqL.of U.hd,zE (j:=2) g2,_,rfl,r,_,dx,_,_,rfl,U.ob,T.zx.c,T.yH,rfl,l,po,line,m1,m2,as,os,rfl,SqL.of hL,hl,U.op,U.os,o8,?_⟩;cases hb:ZA line m1 m2 os with
   |error e =>
    rw[hb] at k;exact k
   |ok o =>
    rw[hb] at k;intro H1 p s1 np hp;have U1:=U.keep s1;refine⟨po,_,_,rfl,rfl,U1.op,(by rw[List.length_map];omega),?_⟩;have nr:r≠po:=zbN U1.ob U1.op (by intro z;cases z);have e2:upd H1 po (.lst (as.map V.ref++[.ref p])) pl=some (.lst (las.map V.ref)):=by rw[zd U.n2];exact U1.ln
    have ob2:upd H1 po (.lst (as.map V.ref++[.ref p])) r=some (.ins a.zw dx (wrF pl ph po)):=by rw[zd nr];exact U1.ob
    refine⟨_,rfl,r,_,dx,_,_,rfl,ob2,T.zx.c,T.yU,rfl,.inl ⟨rfl,_,SqL.of e2⟩,_,rfl,pl,_,_,rfl,rfl,e2,(by rw[List.length_map];omega),?_⟩;have nrl:r≠pl:=zbN U1.ob U1.ln (by intro z;cases z);have e9:os.length<8:=by
     have z:=(zm4 (h:=h) (os:=os) (h':=h) (os':=os++[o]) (line:=line) (by unfold Zy;rw[if_neg hlt,e1,e2'',hb]) kd h6 o8).2.1;simp at z;omega
    refine k _ (fun b o e n=>?_) ⟨dx,pl,ph,po,hvs,as++[p],las++[l],rfl,?_,?_,?_,U.off,?_,?_,?_,?_,?_,U.z1,U.z2,U.z3,U.n1,U.n2,U.n3,h6,?_,?_,kd⟩
    ·simp only[List.mem_cons,List.mem_nil_iff,or_false,not_or] at n;rw[zd n.1,zd n.2.2];exact s1 b o e
    ·rw[zd nrl,zd nr];exact U1.ob
    ·rw[zd (Ne.symm U.n1),zd U.n3];exact U1.hd
    ·exact zfk (X:=Z) U.z1 (zfk (X:=Z) U.z3 U1.hv U.off) U.off
    ·rw[zd (Ne.symm U.n2),zc,List.map_append];rfl
    ·have up:∀(q:Addr) (z:Bd.Opening),OpAt a.zn H1 q z->OpAt a.zn (upd (upd H1 po (.lst (as.map V.ref++[.ref p]))) pl (.lst (las.map V.ref++[.ref l]))) q z:=fun q z ⟨dq,e⟩=>⟨dq,by rw[zd (zbN e U1.ln (by intro z;cases z)),zd (zbN e U1.op (by intro z;cases z))];exact e⟩
     exact Paired.snoc (Paired.mapP U1.os fun q o h=>up q o h) (up _ _ hp)
    ·rw[zc,List.map_append];rfl
    ·refine Paired.snoc (Rows.upd (Rows.upd U1.rows fun m=>U.lo _ m U.z3) fun m=>U.lo _ m U.z1) ?_;rw[zd (fun z=>nl (by rw[z];exact U.z1)),zd (fun z=>nl (by rw[z];exact U.z3))];exact s1 _ _ hL
    ·intro y hy;rcases List.mem_append.mp hy with m|m
     ·exact U.lo y m
     ·rw[List.mem_singleton.mp m];exact nl
    ·simp;omega
    ·simp;omega
theorem WRz.has {Z:List Addr}{CR CO:Addr}{H:Hp}{X:List Addr}{r:Addr}{s:WS}(h:WRz Z CR CO H X r s):∀x∈X,∃xs,H x=some (.lst xs):=by
 obtain⟨dx,pl,ph,po,hvs,as,las,rfl,U⟩:=h;intro x hx;simp only[List.mem_cons,List.mem_nil_iff,or_false] at hx;rcases hx with rfl|rfl|rfl
 ·exact⟨_,U.ln⟩
 ·exact⟨_,U.hd⟩
 ·exact⟨_,U.op⟩
theorem WR.has {CR CO:Addr}{H:Hp}{X:List Addr}{r:Addr}{s:WS}(h:WR CR CO H X r s):∀x∈X,H x≠none:=fun x hx e=>by
 obtain⟨xs,e2⟩:=WRz.has h x hx;rw[e2] at e;cases e
theorem zga (T:Txt K mg a):FnOk P w K mg base (CXo P w) true 1 a.zda a.zdh ["self", "head", "openings"] (zlT a.yj):=by
 refine zF T.zaW.F zgb (fun vs H Q E h=>?_) (fun cdv A outer s0 H vs Q E hr h=>?_)
 ·obtain⟨p,dx,hd,op,v0,v1,v2,v3,v4,v5,rfl,_⟩:=h;rfl
 ·obtain⟨p,dx,l,op,v0,v1,v2,v3,v4,v5,rfl,hp,hl,k⟩:=h;have lp:l≠p:=zbN hl hp (by intro z;cases z);refine⟨_,(zh (yM (pv 0) (zS zN (pv 1) zq (fun _ _=>rfl)) rfl)
   (zh (yM (pv 0) (zS zN (pv 1) zq (fun _ _=>rfl)) rfl)
   (zh (yM (pv 0) (zS zN (pv 1) zq (fun _ _=>rfl)) rfl)
   (zh (yM (pv 0) (zS zN (pv 1) zq (fun _ _=>rfl)) rfl)
   (zh (yM (pv 0) (zS zN (pv 1) zq (fun _ _=>rfl)) rfl)
   (zh (yM (pv 0) (zS zN (pv 1) zq (fun _ _=>rfl)) rfl)
   (zi (yM (pv 0) (pv 2) rfl)))))))),?_⟩
  refine⟨_,rfl,l,_,_,_,rfl,rfl,SqL.of hl,zE (j:=0) rfl,_,rfl,p,_,dx,_,rfl,hp,T.yW.c,T.zgF,(by show 0<1000;decide),?_⟩;refine⟨_,rfl,l,_,_,_,rfl,rfl,SqL.of (by rw[zd lp];exact hl),zE (j:=1) rfl,_,rfl,p,_,dx,_,rfl,zc,T.yW.c,T.zb0,(by show 1<1000;decide),?_⟩;rw[yB];refine⟨_,rfl,l,_,_,_,rfl,rfl,SqL.of (by rw[zd lp];exact hl),zE (j:=2) rfl,_,rfl,p,_,dx,_,rfl,zc,T.yW.c,T.zay,(by show 2<1000;decide),?_⟩;rw[yB];refine⟨_,rfl,l,_,_,_,rfl,rfl,SqL.of (by rw[zd lp];exact hl),zE (j:=3) rfl,_,rfl,p,_,dx,_,rfl,zc,T.yW.c,T.zgH,(by show 3<1000;decide),?_⟩;rw[yB];refine⟨_,rfl,l,_,_,_,rfl,rfl,SqL.of (by rw[zd lp];exact hl),zE (j:=4) rfl,_,rfl,p,_,dx,_,rfl,zc,T.yW.c,T.zfG,(by show 4<1000;decide),?_⟩;rw[yB];refine⟨_,rfl,l,_,_,_,rfl,rfl,SqL.of (by rw[zd lp];exact hl),zE (j:=5) rfl,_,rfl,p,_,dx,_,rfl,zc,T.yW.c,T.ziw,(by show 5<1000;decide),?_⟩;rw[yB];refine⟨_,rfl,_,rfl,p,_,dx,_,rfl,zc,T.yW.c,T.zdi,(by show 6<1000;decide),?_⟩;rw[yB];exact k _ zc fun b hb=>zd hb
end
def zp2 (C:Addr) (E:XK) (H:Hp) (X:List Addr) (i k:Nat):Prop:=∀(fr:Bool) (d q:Addr) (H':Hp),(∀b o,H b=some o->b∉X->(∀φ,o≠.ext φ)->H' b=some o)->H' d=some (.xd (wfF q (.int ((i:Nat):Int)) (.int ((k:Nat):Int))))->H' q=some (.lst [])->E (C,fr) (some d) H'
def FailsW (C:Addr) (E:XK) (H:Hp) (i k:Nat):Prop:=∀(fr:Bool) (d q:Addr) (H':Hp),zk7 H H'->H' d=some (.xd (wfF q (.int ((i:Nat):Int)) (.int ((k:Nat):Int))))->H' q=some (.lst [])->E (C,fr) (some d) H'
theorem FailsW.same {C:Addr}{E:XK}{H H1:Hp}{i k:Nat}(f:FailsW C E H i k) (s:Same H H1):FailsW C E H1 i k:=fun fr d q H' m e e2=>f fr d q H' (s.thenM m) e e2
def zmh {S:Type}(K:PySem.W.Frag) (Rd:Hp->List Addr->Addr->S->Prop) (step:S->Bd.Bytes->Except Nat S) (fin:S->Bd.Bytes->Option Nat) (CF:Addr):Sp:=fun vs H Q E=>∃(l r:Addr) (X:List Addr) (s0:S) (t:Bd.Bytes),vs=[.ref l,.ref r]/\SqL K H l (iB t)/\t.length<=6000/\Rd H X r s0/\(∀x∈X,H x≠none) /\
 match Z7 step fin s0 (fl 10 t) with
 |.error e=>zp2 CF E H X e.1 e.2
 |.ok s=>∀(H':Hp) (X':List Addr),(∀b o,H b=some o->b∉X->H' b=some o)->Rd H' X' r s->(∀x∈X',x∈X\/H x=none)->Q .non H'
theorem zit {X:Cx}{K:PySem.W.Frag}(hK:X.K=K):zgD X (.builtin "len") (fun xs H Q=>∃p ys,xs=[V.ref p]/\(SqL K H p ys\/SqT K H p ys)/\Q (V.int ((ys.length:Nat):Int)) H):=by
 subst hK;exact zG
theorem zhY {X:Cx}{K:PySem.W.Frag}(hK:X.K=K):IxR X (zqY K):=by
 subst hK;exact zN
theorem zd9 {X:Cx}{K:PySem.W.Frag}{e:Expr}{f:Str}{pos:Pos}{ta:TE}(hK:X.K=K) (he:PE X e ta) (hb:attributeBase e f X.env (eval e X.env)=eval e X.env):PE X (.Attribute e f pos) (zcH K ta f):=by
 subst hK;exact zo he hb
theorem Rows.init {H:Hp}:∀{A1:List Addr}{B1:List Bd.Bytes}{a1:Addr}{b1:Bd.Bytes},A1.length=B1.length->Rows H (A1++[a1]) (B1++[b1])->Rows H A1 B1
 |[],[],_,_,_,_=>.nil
 |[],_::_,_,_,h,_=>by simp at h
 |_::_,[],_,_,h,_=>by simp at h
 |_::_,_::_,_,_,h,.cons f t=>.cons f (Rows.init (by simpa using h) t)
section
variable {P:Program}{w:World}{K:PySem.W.Frag}{mg:Str->Option Value}{base:Heap}{a:Ad}
theorem zii {S:Type}{Rd:Hp->List Addr->Addr->S->Prop}{step:S->Bd.Bytes->Except Nat S}{fin:S->Bd.Bytes->Option Nat}{C ft fr:Addr}{dt dr:FuncData}{kt kr:Nat}(T:Txt K mg a) (hC:Cls K C)
  (hM_take:znl K C "take" ft) (hM_take_rest:znl K C "take_rest" fr) (hb_take:Binds K dt ["self", "line"] []) (hb_take_rest:Binds K dr ["self", "rest"] [])
  (G1:FnOk P w K mg base (CXo P w) true kt ft dt ["self", "line"] (zjr Rd step a.zm)) (G2:FnOk P w K mg base (CXo P w) true kr fr dr ["self", "rest"] (zjM Rd fin a.zm)) (hkt:kt<=12) (hkr:kr<=12)
  (obj:∀H X r s,Rd H X r s->∃dx fs,H r=some (.ins C dx fs)/\fs.lookup ("take" : Str)=none/\fs.lookup ("take_rest" : Str)=none) (keep:∀H H' X r s,Rd H X r s->Same H H'->Rd H' X r s) :
  FnOk P w K mg base (CXo P w) true 13 a.zcK a.zc1 ["text", "reader"] (zmh K Rd step fin a.zI):=by
 have zbr:=zdD (P:=P) (w:=w) (base:=base) T;have G_take:FnOk P w K mg base (CXo P w) true 12 ft dt ["self", "line"] (zjr Rd step a.zm):=G1.mono hkt;have G_take_rest:FnOk P w K mg base (CXo P w) true 12 fr dr ["self", "rest"] (zjM Rd fin a.zm):=G2.mono hkr;have zaS:∀{cm:Bool},FnOk P w K mg base (CXo P w) cm 2 a.Zq a.Zv ["self", "line", "kind"] (zgJ a.zI):=zdp T;refine zF T.za7.F Za (fun vs H Q E h=>?_) (fun cdv A outer s0 H vs Q E hr h=>?_)
 ·obtain⟨l,r,X,s,t,rfl,_⟩:=h;rfl
 ·obtain⟨l,r,X,s0,t,rfl,hS,hl,R0,hX,k⟩:=h;have zl:=szl;obtain⟨wt2,hwt2⟩:∃wt2:WX,wt2=fun σ c dx m=>∃(d:Addr) (i kk:Nat),c=(a.zm,true)/\dx=some d/\m d=some (.xd [("kind",.int ((kk:Nat):Int))])/\σ.length=6/\σ[3]?=some (some (.int ((i:Nat):Int)))/\Z7 step fin s0 (fl 10 t)=.error (i,kk)/\(∀b o,H b=some o->b∉X->(∀φ,o≠.ext φ)->m b=some o):=⟨_,rfl⟩
  obtain⟨wt1,hwt1⟩:∃wt1:WX,wt1=fun σ c dx m=>∃(d p:Addr) (xs:List V) (kk:Nat),c=(a.zm,true)/\dx=some d/\m d=some (.xd [("kind",.int ((kk:Nat):Int))])/\σ.length=6/\σ[2]?=some (some (.ref p))/\m p=some (.lst xs)/\Z7 step fin s0 (fl 10 t)=.error (xs.length-1,kk)/\1<=xs.length/\(∀b o,H b=some o->b∉X->(∀φ,o≠.ext φ)->m b=some o):=⟨_,rfl⟩
  refine⟨_,(zh (z6 (i:=2) Za.nd rfl (lq rfl) (zD zbr hr.q rfl T.yL.m T.yL.F.kp T.yL.b .nil takes_cx.passes (za (pv 0) (za (zr (v:=.int 10) rfl T.zgI ⟨_,rfl⟩) ze))))
   (zh (zcV takes_cx.po rfl (zpF rfl T.z_enumerate (za (zdE zfB (pv 2) zkc (zcW (zez zb2 zq))) ze)) (zod rfl (zfC (zY (i:=3) Za.nd rfl (lq rfl)) (zfC (zY (i:=4) Za.nd rfl (lq rfl)) zmy))) (zi (zlj (Wt:=wt2) rfl rfl (fun pn xe tk2=>(zi (yr (ZG (pv 1) hC hM_take G_take hr.q hb_take .nil tk2.passes (za (pv 4) ze))))) (znT (i:=5) takes_cx rfl rfl Za.nd rfl rfl rfl T.zj.m (fun ea pn xe th20=>(zi (zhT (K:=K) rfl th20 rfl (zP (T.yD.k0 T.yu) zaS (hr.mark).q rfl T.yD.m T.yu.b th20 (za (pv 3) (za (zfo (K:=K) rfl (pv 5) rfl) ze))) (pv 5)))) (zma takes_cx)))))
   (zi (zlj (Wt:=wt1) rfl rfl (fun pn xe tk1=>(zi (yr (ZG (pv 1) hC hM_take_rest G_take_rest hr.q hb_take_rest .nil tk1.passes (za (zS (zhY (K:=K) rfl) (pv 2) (zez zb2 zq) (fun _ _=>rfl)) ze))))) (znT (i:=5) takes_cx rfl rfl Za.nd rfl rfl rfl T.zj.m (fun ea pn xe th10=>(zi (zhT (K:=K) rfl th10 rfl (zP (T.yD.k0 T.yu) zaS (hr.mark).q rfl T.yD.m T.yu.b th10 (za (zaF zj8 (zK (zit (K:=K) rfl) rfl T.z_len yN (za (pv 2) ze)) zq) (za (zfo (K:=K) rfl (pv 5) rfl) ze))) (pv 5)))) (zma takes_cx)))))),?_⟩
  refine⟨_,rfl,l,t,10,rfl,hS,(by omega),fun H1 p as s1 np fr hp rows=>?_⟩;have epar:=zfy 10 t;rw[<-epar] at rows;unfold zi0 at rows;have tln:=zoa 10 t;generalize hz:fl 10 t=z at *;obtain⟨lines,rest⟩:=z;dsimp only at rows k hwt1 hwt2 tln;obtain⟨ri,x,li,y,eas,eli,hx⟩:=Paired.last rows (by simp);obtain⟨e1,e2⟩:=List.append_inj' eli rfl;obtain rfl:rest=y:=by simpa using e2
  subst e1 eas;have rows':Rows H1 ri lines:=Rows.init (by have q:=Paired.length rows;simpa using q) rows;have lri:ri.length=lines.length:=Paired.length rows';have R1:=keep _ _ _ _ _ R0 s1;have hX1:∀b,H b=none->b∉X:=fun b e m=>hX b m e;refine⟨_,rfl,_,rfl,_,rfl,p,_,rfl,SqL.of hp,fun sl nsl=>?_⟩;rw[List.map_append,List.map_cons,List.map_nil,zor];have s2:Same H1 (upd H1 sl (.lst (ri.map V.ref))):=(Same.refl _).new nsl;have hsl:upd H1 sl (.lst (ri.map V.ref)) sl=some (.lst (ri.map V.ref)):=zc;have nslX:sl∉X:=hX1 sl (s1.free nsl);generalize upd H1 sl (.lst (ri.map V.ref))=H2 at s2 hsl;have R2:=keep _ _ _ _ _ R1 s2;have npX:p∉X:=hX1 p np;have stays:∀{H':Hp},(∀b o,H2 b=some o->b∉X->H' b=some o)->∀b o,H b=some o->b∉X->H' b=some o:=fun f b o e n=>f b o (s2 b o (s1 b o e)) n;have rowX:∀q∈ri++[x],q∉X:=fun q hq=>hX1 q (fr q hq);have fail:∀{H6:Hp} {ea d Tb:Addr} {i kk:Nat},H6 ea=some (xO a.zm true (some d) (.ref Tb) ea)->(∀b o,H b=some o->b∉X->(∀φ,o≠.ext φ)->mask H6 b=some o)->Z7 step fin s0 (lines,rest)=.error (i,kk) ->
    ∀xn,H6 xn=none->∀(d' q':Addr) (H7:Hp),upd H6 xn (xO a.zI true none .none xn) d'=none->upd H6 xn (xO a.zI true none .none xn) q'=none->d'≠xn->H7 d'=some (.xd (wfF q' (.int ((i:Nat):Int)) (.int ((kk:Nat):Int))))->H7 q'=some (.lst []) ->
     (∀b,b≠xn->b≠d'->b≠q'->H7 b=upd H6 xn (xO a.zI true none .none xn) b)->E (a.zI,false) (some d') (mask H7)/\H7 ea=H6 ea/\ea≠xn:=by
   intro H6 ea d Tb i kk l1 sm er xn hxn d' q' H7 nd nq dxn e2 e3 kp;rw[er] at k;have q1:ea≠xn:=zg l1 hxn;have off:∀{c:Addr} {o:HO},H6 c=some o->c≠d'/\c≠q':=fun{c} {o} e=>by
    have cx:c≠xn:=zg e hxn;constructor
    ·intro z;rw[<-z,zd cx,e] at nd;cases nd
    ·intro z;rw[<-z,zd cx,e] at nq;cases nq
   refine⟨k false d' q' _ (fun b o e n m=>?_) (zbT e2 fun φ q=>nomatch q) (zbT e3 fun φ q=>nomatch q),?_,q1⟩
   ·have e6:=zbc (sm b o e n m);have q1:b≠xn:=zg e6 hxn;refine zbT ?_ m;rw[kp b q1 (off e6).1 (off e6).2,zd q1];exact e6
   ·rw[kp ea q1 (off l1).1 (off l1).2,zd q1]
  refine⟨sl,_,rfl,SqL.of hsl,zoL (K:=K) (a:=sl) (xs:=ri.map V.ref) (fun i σ H'=>∃(v3 v4 v5:Option V) (X':List Addr) (s:S),σ=[some (.ref l),some (.ref r),some (.ref p),v3,v4,v5] /\
    Rd H' X' r s/\(∀x∈X',x∈X\/H2 x=none)/\(∀b o,H2 b=some o->b∉X->H' b=some o)/\zeo step (lines.drop i) i s=zeo step lines 0 s0)
   ⟨none,none,none,X,s0,rfl,R2,fun x hx=>.inl hx,fun b o e _=>e,rfl⟩
   (fun i σ H' _ ⟨_,_,_,_,_,_,_,_,f,_⟩=>SqL.of (f _ _ hsl nslX)) ?_ ?_⟩
  ·rintro i y σ H' tp hi ⟨v3,v4,v5,X',s,rfl,R3,hX',f,run⟩ ntp;obtain⟨q,hq,rfl⟩:=zaD hi;obtain⟨line,hline,hql⟩:=Paired.get rows' hq;have lll:line.length<=10000:=by
    have m:=(zea 10 t).2 line (by rw[<-epar];exact List.mem_append_left _ (List.mem_of_getElem? hline));omega
   have il:i<lines.length:=(List.getElem?_eq_some_iff.mp hline).1;have ed:lines.drop i=line::lines.drop (i+1):=by
    rw[List.drop_eq_getElem_cons il];congr 1;rw[List.getElem?_eq_getElem il] at hline;exact Option.some.inj hline
   rw[ed,zeo] at run;refine⟨tp,_,rfl,.inl (.inl zc),rfl,_,_,rfl,_,_,rfl,rfl,?_⟩;have tpne:Same H' (upd H' tp (.tup [.int ((i:Nat):Int),.ref q])):=(Same.refl _).new ntp;have R5:=keep _ _ _ _ _ R3 tpne;have f5:∀b o,H2 b=some o->b∉X->upd H' tp (.tup [.int ((i:Nat):Int),.ref q]) b=some o:=fun b o e n=>tpne _ _ (f b o e n);have qX:q∉X:=rowX q (List.mem_append_left _ (List.mem_of_getElem? hq));have hq2:=s2 _ _ hql;have hq5:=f5 _ _ hq2 qX;have qX':q∉X':=fun m=>(hX' q m).elim qX fun e=>by
    rw[hq2] at e;cases e
   have fresh:∀z,upd H' tp (.tup [.int ((i:Nat):Int),.ref q]) z=none->z∈X\/H2 z=none:=fun z e=>by
    by_cases m:z∈X
    ·exact .inl m
    ·refine .inr ?_;cases e2:H2 z with
     |none=>rfl
     |some o =>
      rw[f5 z o e2 m] at e;cases e
   generalize upd H' tp (.tup [.int ((i:Nat):Int),.ref q])=H5 at R5 f5 hq5 fresh;obtain⟨dx,fs,ob,lk,_⟩:=obj _ _ _ _ R5;refine⟨⟨_,rfl,r,dx,fs,rfl,ob,lk,_,rfl,r,q,X',s,line,rfl,R5,hq5,qX',lll,?_⟩,?_⟩
   ·cases ht:step s line with
    |error e =>
     rw[ht] at run;intro d H6 sm ek;rw[hwt2];refine⟨d,i,e,rfl,rfl,ek,rfl,rfl,?_,fun b o e n m=>sm b o (stays f5 b o e n) m⟩;unfold Z7;dsimp only;rw[<-run]
    |ok s' =>
     rw[ht] at run;intro H6 X6 f6 R6 hX6;exact⟨_,_,_,X6,s',rfl,R6,fun z hz=>(hX6 z hz).elim (hX' z) (fresh z),fun b o e n=>f6 b o (f5 b o e n) fun m=>(hX' b m).elim n (fun z=>by rw[e] at z;cases z),run⟩
   ·intro ea C' fr' dx' σ' H6 live wt;rw[hwt2] at wt;obtain⟨d,i',kk,ec,rfl,ed',ls,s3',tot',sm⟩:=wt;obtain⟨rfl,rfl⟩:=Prod.mk.inj ec;have ed2:=zbc ed';obtain⟨Tb,hT,l1,l2⟩:=live;refine⟨true,T.zad,?_⟩;rw[if_pos rfl];have g3:(σ'.set 5 (some (.ref ea)))[3]?=some (some (.int ((i':Nat):Int))):=by
     rw[List.getElem?_set_ne (by decide)];exact s3'
    have g5:(σ'.set 5 (some (.ref ea)))[5]?=some (some (.ref ea)):=List.getElem?_set_self (by omega);refine⟨_,g3,_,g5,ea,_,true,d,.ref Tb,_,_,rfl,l1,ed2,T.zj.D,T.zaq,rfl,(by show 2<=1000;decide),fun xn hxn=>?_⟩;refine⟨xn,_,_,true,.none,rfl,zc,fun d' q' H7 nd nq dxn e1 e2 e3 kp=>?_⟩;obtain⟨w1,w2,w3⟩:=fail l1 sm tot' xn hxn d' q' H7 nd nq dxn e2 e3 kp;exact⟨rfl,_,g5,xn,_,some d',a.zm,some d,.ref Tb,rfl,rfl,Ne.symm w3,e1,w2.trans l1,T.yD.E,T.zj.E,w1⟩
  ·rintro σ H' ⟨v3,v4,v5,X',s,rfl,R3,hX',f,run⟩;rw[List.length_map,lri,List.drop_length,zeo] at run;have rd:Z7 step fin s0 (lines,rest)=match fin s rest with
     |some k=>.error (lines.length,k)
     |none=>.ok s:=by
    unfold Z7;dsimp only;rw[<-run] <;> rfl
   have hp':=f _ _ (s2 _ _ hp) npX;have hx':=f _ _ (s2 _ _ hx) (rowX x (by simp));have rll:rest.length<=10000:=by
    have m:=(zea 10 t).2 rest (by rw[<-epar];exact List.mem_append_right _ (List.mem_singleton.mpr rfl));omega
   obtain⟨dx,fs,ob,_,lk⟩:=obj _ _ _ _ R3;refine⟨⟨_,rfl,r,dx,fs,rfl,ob,lk,_,rfl,_,rfl,p,_,_,.ref x,rfl,rfl,SqL.of hp',(by rw[List.map_append];exact zbu _ _),r,x,X',s,rest,rfl,R3,hx',rll,?_⟩,?_⟩
   ·cases ht:fin s rest with
    |some e =>
     rw[ht] at rd;intro d H6 sm ek;rw[hwt1];refine⟨d,p,_,e,rfl,rfl,ek,rfl,rfl,sm _ _ hp' (fun φ q=>nomatch q),?_,by simp,fun b o e n m=>sm b o (stays f b o e n) m⟩;rw[rd,List.length_map,List.length_append,lri];rfl
    |none =>
     rw[ht] at rd;rw[rd] at k;intro H6 s6;refine k H6 X' (fun b o e n=>s6 b o (stays f b o e n)) (keep _ _ _ _ _ R3 s6) fun z hz=>(hX' z hz).imp_right fun e=>s1.free (s2.free e)
   ·intro ea C' fr' dx' σ' H6 live wt;rw[hwt1] at wt;obtain⟨d,p',xs,kk,ec,rfl,ed',ls,s2',hp6,tot',x1,sm⟩:=wt;obtain⟨rfl,rfl⟩:=Prod.mk.inj ec;have ed2:=zbc ed';have hp7:=zbc hp6;obtain⟨Tb,hT,l1,l2⟩:=live;refine⟨true,T.zad,?_⟩;rw[if_pos rfl];have g2:(σ'.set 5 (some (.ref ea)))[2]?=some (some (.ref p')):=by
     rw[List.getElem?_set_ne (by decide)];exact s2'
    have g5:(σ'.set 5 (some (.ref ea)))[5]?=some (some (.ref ea)):=List.getElem?_set_self (by omega);refine⟨_,g2,p',xs,rfl,.inl (SqL.of hp7),_,_,rfl,rfl,_,g5,ea,_,true,d,.ref Tb,_,_,rfl,l1,ed2,T.zj.D,T.zaq,rfl,(by show 2<=1000;decide),fun xn hxn=>?_⟩;have ex:V.int ((xs.length-1:Nat):Int)=(fun i j=>V.int (i-j)) ((xs.length:Nat):Int) 1:=congrArg V.int (show((xs.length-1:Nat):Int)=((xs.length:Nat):Int)-1 by omega);refine⟨xn,.int ((xs.length-1:Nat):Int),_,true,.none,(by rw[ex]),zc,fun d' q' H7 nd nq dxn e1 e2 e3 kp=>?_⟩;obtain⟨w1,w2,w3⟩:=fail l1 sm tot' xn hxn d' q' H7 nd nq dxn e2 e3 kp;exact⟨rfl,_,g5,xn,_,some d',a.zm,some d,.ref Tb,rfl,rfl,Ne.symm w3,e1,w2.trans l1,T.yD.E,T.zj.E,w1⟩
end
section
variable {P:Program}{w:World}{K:PySem.W.Frag}{mg:Str->Option Value}{base:Heap}{a:Ad}
end
structure zkS (K:PySem.W.Frag) (CR C:Addr):Prop where
 x:PySem.W.exmOne K (.ref C) (.ref CR)=some true
 D:zjX K C
 nn:NoAttr K C "number"
 nt:NoAttr K C "told"
def RefWt (K:PySem.W.Frag) (CR:Addr) (N:Nat) (due:List Int):WX:=fun σ c dx m=>σ.length=N/\∃(d q:Addr) (F:List (Str×V)) (n:Int) (ns:List Int),dx=some d/\zkS K CR c.1/\m d=some (.xd F)/\F.lookup ("number" : Str)=some (.int n)/\F.lookup ("told" : Str)=some (.ref q)/\m q=some (.lst (ns.map V.int))/\ns.length<=1000/\due=n::(ns.length:Int)::(ns++[0])
theorem RefWt.none {K:PySem.W.Frag}{CR C d q:Addr}{N:Nat}{due:List Int}{σ:L2.St}{m:Hp}{n:Int}{fr:Bool}(hσ:σ.length=N) (ro:zkS K CR C) (e:m d=some (.xd (rfF n q))) (e2:m q=some (.lst [])) (h:due=[n,0,0]):RefWt K CR N due σ (C,fr) (some d) m :=
 ⟨hσ,d,q,_,n,[],rfl,ro,e,rfl,rfl,e2,by decide,h⟩
theorem RefWt.text {K:PySem.W.Frag}{CR C d q:Addr}{N:Nat}{due:List Int}{σ:L2.St}{m:Hp}{i k:V}{fr:Bool}(hσ:σ.length=N) (ro:zkS K CR C) (e:m d=some (.xd (wfF q i k))) (e2:m q=some (.lst [])) (h:due=[-6,0,0]):RefWt K CR N due σ (C,fr) (some d) m :=
 ⟨hσ,d,q,_,-6,[],rfl,ro,e,rfl,rfl,e2,by decide,h⟩
def long (b:Bd.Bytes):Bool:=decide (4096<b.length)
def znQ (K:PySem.W.Frag) (CT:Addr):Sp:=fun vs H Q E=>∃(l:Addr) (as:List Addr) (bs:List Bd.Bytes),vs=[.ref l]/\H l=some (.lst (as.map V.ref))/\Paired (fun x b=>SqL K H x (iB b)) as bs /\
 if bs.any long=true then FailsN CT (-1) E H else Q .non H
section
variable {P:Program}{w:World}{K:PySem.W.Frag}{mg:Str->Option Value}{base:Heap}{a:Ad}
theorem zh3 (T:Txt K mg a):FnOk P w K mg base (CXo P w) true 4 a.zex a.zew ["rows"] (znQ K a.y9):=by
 have zeN:=zem (P:=P) (w:=w) (base:=base) (cm:=true) T;refine zF T.zaE.F zdx (fun vs H Q E h=>?_) (fun cdv A outer s0 H vs Q E hr h=>?_)
 ·obtain⟨l,as,bs,rfl,_⟩:=h;rfl
 ·obtain⟨l,as,bs,rfl,hl,pr,k⟩:=h;refine⟨_,(zi (zcV takes_cx.po rfl (yC (pv 0)) (zY (i:=1) zdx.nd rfl (lq rfl)) (zi (yf (zH zkz (zK zG rfl T.z_len yN (za (pv 1) ze)) (zr (v:=.int 4096) rfl T.zjp ⟨_,rfl⟩) (zJ _)) (zi (zQ takes_cx rfl (znu (T.zb7.k0 T.ZI) zeN hr.q rfl T.zb7.m T.ZI.b takes_cx))) zO)))),?_⟩;have lab:as.length=bs.length:=Paired.length pr;refine⟨_,rfl,l,rfl,⟨_,SqL.of hl⟩,zby (K:=K) (a:=l) (xs:=as.map V.ref) (fun i σ H'=>∃v:Option V,σ=[some (.ref l),v]/\H'=H/\(bs.take i).any long=false)
   ⟨none,rfl,rfl,rfl⟩ (fun i σ H' _ ⟨_,_,e,_⟩=>by rw[e];exact SqL.of hl) ?_ ?_⟩
  ·rintro i y σ H' hi ⟨v,rfl,rfl,no⟩;obtain⟨q,hq,rfl⟩:=zaD hi;obtain⟨b,hb,sq⟩:=Paired.get pr hq;refine⟨_,rfl,q,_,rfl,.inl sq,_,_,rfl,rfl,_,rfl,?_⟩;rw[zas];by_cases z:4096<b.length
   ·rw[decide_eq_true (show(4096:Int)<((b.length:Nat):Int) by omega)];rw[if_pos (List.any_eq_true.mpr ⟨b,List.mem_of_getElem? hb,decide_eq_true z⟩)] at k;exact yk (zl5 T.zb7.E k)
   ·rw[decide_eq_false (show ¬(4096:Int)<((b.length:Nat):Int) by omega)];refine yw ⟨_,rfl,rfl,?_⟩;rw[zV hb,List.any_append,no];show(decide (4096<b.length)||false)=false;rw[decide_eq_false z];rfl
  ·rintro σ H' ⟨v,rfl,rfl,no⟩;rw[List.length_map,lab,List.take_length] at no;rw[if_neg (by rw[no];decide)] at k;exact k
end
theorem zhf {σ:L2.St}{H:Hp}{ta tb tc:TE}{i j k:Int}(ha:zU ta σ H (.int i)) (hb:zU tb σ H (.int j)) (hc:zU tc σ H (.int k)) :
  zU (zhM (rI0 fun i j=>.bl (decide (i<=j))) (rI0 fun i j=>.bl (decide (i<j))) ta tb tc) σ H (.bl (decide (i<=j)&&decide (j<k))):=fun R h=>by
 refine ha _ (hb _ ⟨_,_,rfl,rfl,_,rfl,?_⟩);by_cases q:i<=j
 ·rw[decide_eq_true q] at h ⊢;exact yk (hc _ ⟨_,_,rfl,rfl,by simpa using h⟩)
 ·rw[decide_eq_false q] at h ⊢;exact yw (by simpa using h)
def zmd (h:List HV):Prop:=∀(n:Nat) (x:HV),h[n]?=some x->∃line,yG n line=.ok x
theorem ziQ {h h':List HV}{o o':List Bd.Opening}{line:Bd.Bytes}(g:zmd h) (e:Zy h o line=.ok (h',o')):zmd h':=by
 unfold Zy at e;by_cases q:h.length<6
 ·rw[if_pos q] at e;cases hb:yG h.length line with
  |error k=>rw[hb] at e;cases e
  |ok v =>
   rw[hb] at e;obtain⟨rfl,rfl⟩:=Prod.mk.inj (Except.ok.inj e);intro n x hx;by_cases hn:n<h.length
   ·rw[List.getElem?_append_left hn] at hx;exact g n x hx
   ·have z:=(List.getElem?_eq_some_iff.mp hx).1;simp at z;obtain rfl:n=h.length:=by omega
    rw[List.getElem?_append_right (Nat.le_refl _),Nat.sub_self] at hx;obtain rfl:v=x:=Option.some.inj hx;exact⟨line,hb⟩
 ·rw[if_neg q] at e;cases hb:ZA line (Wm.numAt h 1) (Wm.numAt h 2) o with
  |error k=>rw[hb] at e;cases e
  |ok v =>
   rw[hb] at e;obtain⟨rfl,rfl⟩:=Prod.mk.inj (Except.ok.inj e);exact g
theorem zcp {n:Nat}{line:Bd.Bytes}{x:HV}(h0:n≠0) (e:yG n line=.ok x):∃m,x=.num m/\(n=1->m<=32)/\(n=2->m<=8):=by
 unfold yG at e;generalize zz (Bd.ascii (zeK n)) line=r at e
 match r,e with
 |none,e=>cases e
 |some [],e=>cases e
 |some (_::_::_),e=>cases e
 |some [z],e =>
  dsimp only at e;unfold Zl at e;rw[if_neg h0] at e;have sz:∀{most b:Nat},Zs z most=.ok b->b<=most:=fun{most b} q=>by
   unfold Zs at q;cases hn:Bd.readNumber z with
   |none=>rw[hn] at q;cases q
   |some k =>
    rw[hn] at q;dsimp only at q;by_cases w:k<1\/most<k
    ·rw[if_pos w] at q;cases q
    ·rw[if_neg w] at q;obtain rfl:=Except.ok.inj q;omega
  by_cases h1:n=1
  ·rw[if_pos h1] at e;cases q:Zs z 32 with
   |error k=>rw[q] at e;cases e
   |ok b=>rw[q] at e;exact⟨b,(Except.ok.inj e).symm,fun _=>sz q,fun w=>by omega⟩
  ·rw[if_neg h1] at e;by_cases h2:n=2
   ·rw[if_pos h2] at e;cases q:Zs z 8 with
    |error k=>rw[q] at e;cases e
    |ok b=>rw[q] at e;exact⟨b,(Except.ok.inj e).symm,fun w=>by omega,fun _=>sz q⟩
   ·rw[if_neg h2] at e;cases q:zbA z with
    |none=>rw[q] at e;cases e
    |some b=>rw[q] at e;exact⟨b,(Except.ok.inj e).symm,fun w=>by omega,fun w=>by omega⟩
structure WallIs (CW CO:Addr) (H:Hp) (p:Addr) (dx op:Addr) (v0:V) (as:List Addr) (w:Bd.Wall):Prop where
 at_:H p=some (.ins CW dx (wlF v0 (.int ((w.long:Nat):Int)) (.int ((w.high:Nat):Int)) (.int ((w.left:Nat):Int)) (.int ((w.right:Nat):Int)) (.int ((w.reveal:Nat):Int)) (.ref op)))
 op:H op=some (.lst (as.map V.ref))
 os:Ops CO H as w.opens
 l32:w.long<=32
 h8:w.high<=8
 o8:w.opens.length<=1000
theorem WallIs.same {CW CO:Addr}{H H':Hp}{p dx op:Addr}{v0:V}{as:List Addr}{w:Bd.Wall}(s:Same H H') (W:WallIs CW CO H p dx op v0 as w):WallIs CW CO H' p dx op v0 as w:=⟨s _ _ W.at_,s _ _ W.op,Ops.same s W.os,W.l32,W.h8,W.o8⟩
theorem WallAt.is {CW CO:Addr}{H:Hp}{p:Addr}{h:List HV}{os:List Bd.Opening}(W:WallAt CW CO H p h os) (g:zmd h) (o8:os.length<=1000):∃dx op v0 as,WallIs CW CO H p dx op v0 as (zck h os):=by
 obtain⟨dx,op,v0,v1,v2,v3,v4,v5,as,e,hv,ho,hos⟩:=W;cases hv with
 |cons a0 t0=>cases t0 with
  |cons a1 t1=>cases t1 with
   |cons a2 t2=>cases t2 with
    |cons a3 t3=>cases t3 with
     |cons a4 t4=>cases t4 with
      |cons a5 t5 =>
       cases t5;obtain⟨l1,e1⟩:=g 1 _ rfl;obtain⟨m1,rfl,b1,_⟩:=zcp (by decide) e1;obtain⟨l2,e2⟩:=g 2 _ rfl;obtain⟨m2,rfl,_,b2⟩:=zcp (by decide) e2;obtain⟨l3,e3⟩:=g 3 _ rfl;obtain⟨m3,rfl,_,_⟩:=zcp (by decide) e3;obtain⟨l4,e4⟩:=g 4 _ rfl;obtain⟨m4,rfl,_,_⟩:=zcp (by decide) e4;obtain⟨l5,e5⟩:=g 5 _ rfl;obtain⟨m5,rfl,_,_⟩:=zcp (by decide) e5;obtain rfl:v1=.int ((m1:Nat):Int):=a1;obtain rfl:v2=.int ((m2:Nat):Int):=a2;obtain rfl:v3=.int ((m3:Nat):Int):=a3;obtain rfl:v4=.int ((m4:Nat):Int):=a4;obtain rfl:v5=.int ((m5:Nat):Int):=a5;exact⟨dx,op,v0,as,e,ho,hos,b1 rfl,b2 rfl,o8⟩
def zn8 (C:Addr):Sp:=fun vs H Q _=>∃(p:Addr) (o:Bd.Opening) (x y:Nat),vs=[.ref p,.int ((x:Nat):Int),.int ((y:Nat):Int)]/\OpAt C H p o/\Q (.bl (o.has x y)) H
def zoN (CW CO:Addr):Sp:=fun vs H Q _=>∃(p dx op:Addr) (v0:V) (as:List Addr) (w:Bd.Wall) (x y:Nat),vs=[.ref p,.int ((x:Nat):Int),.int ((y:Nat):Int)]/\WallIs CW CO H p dx op v0 as w/\∀H':Hp,Same H H'->Q (.bl (w.isOpen x y)) H'
theorem Tups.same {H H':Hp}{as:List Addr}{l:List (List Int)}(s:Same H H') (r:Tups H as l):Tups H' as l:=Paired.mapP r fun _ _ h=>s _ _ h
theorem Tups.upd {H:Hp}{z:Addr}{xs ys:List V}{as:List Addr}{l:List (List Int)}(r:Tups H as l) (h:H z=some (.lst xs)):Tups (upd H z (.lst ys)) as l:=Paired.mapP r fun a ms e=>by
 rw[zd (zbN e h (by intro q;cases q))];exact e
section
variable {P:Program}{w:World}{K:PySem.W.Frag}{mg:Str->Option Value}{base:Heap}{a:Ad}
theorem zfb (T:Txt K mg a):FnOk P w K mg base (CXo P w) true 1 a.zcm a.zb9 ["self", "place", "course"] (zn8 a.zn):=by
 refine zF T.zar.F zfl (fun vs H Q E h=>?_) (fun cdv A outer s0 H vs Q E hr h=>?_)
 ·obtain⟨p,o,x,y,rfl,_⟩:=h;rfl
 ·obtain⟨p,o,x,y,rfl,⟨dx,hp⟩,k⟩:=h;refine⟨_,(zi (zL (zhx (ze7 za4 zpW (zo (pv 0) rfl) (pv 1) (zaF zcY (zo (pv 0) rfl) (zo (pv 0) rfl))) (zeQ (ze7 za4 zpW (zo (pv 0) rfl) (pv 2) (zaF zcY (zo (pv 0) rfl) (zo (pv 0) rfl))))))),?_⟩;have fld:∀(σ:L2.St) ,σ=[some (.ref p),some (.int ((x:Nat):Int)),some (.int ((y:Nat):Int))]->zU (zcH K (zbY 0) "x") σ H (.int ((o.x:Nat):Int))/\zU (zcH K (zbY 0) "y") σ H (.int ((o.y:Nat):Int))/\zU (zcH K (zbY 0) "wide") σ H (.int ((o.w:Nat):Int))/\zU (zcH K (zbY 0) "high") σ H (.int ((o.h:Nat):Int)):=by
   rintro σ rfl;exact⟨Zz rfl hp T.zB.c T.Zo rfl,Zz rfl hp T.zB.c T.Zn rfl,Zz rfl hp T.zB.c T.Zu rfl,Zz rfl hp T.zB.c T.Zk rfl⟩
  obtain⟨f1,f2,f3,f4⟩:=fld [some (.ref p),some (.int ((x:Nat):Int)),some (.int ((y:Nat):Int))] rfl;refine zfD (zhf f1 (zjw rfl) (zdQ f1 f3)) (zhf f2 (zjw rfl) (zdQ f2 f4)) _ ?_;have e:((decide (((o.x:Nat):Int)<=((x:Nat):Int))&&decide (((x:Nat):Int)<((o.x:Nat):Int)+((o.w:Nat):Int)))&&(decide (((o.y:Nat):Int)<=((y:Nat):Int))&&decide (((y:Nat):Int)<((o.y:Nat):Int)+((o.h:Nat):Int))))=o.has x y:=by
   unfold Bd.Opening.has;rw[Bool.eq_iff_iff];simp only[Bool.and_eq_true,decide_eq_true_eq];omega
  rw[e];exact k
theorem zgM (T:Txt K mg a):FnOk P w K mg base (CXo P w) true 2 a.zd0 a.zdU ["self", "place", "course"] (zoN a.yj a.zn):=by
 have zf1:=zfb (P:=P) (w:=w) (base:=base) T;refine zF T.zbp.F zaU (fun vs H Q E h=>?_) (fun cdv A outer s0 H vs Q E hr h=>?_)
 ·obtain⟨p,dx,op,v0,as,wl,x,y,rfl,_⟩:=h;rfl
 ·obtain⟨p,dx,op,v0,as,wl,x,y,rfl,W,k⟩:=h;have zl:=szl;refine⟨_,(zi (zL (zK (zlD rfl) rfl T.z_any zlm (za (zcU takes_cx rfl rfl (own:=[("opening",3)]) rfl zaU.nd (yC (zo (pv 0) rfl)) (bkq ["self", "place", "course", "opening"] (zk zbk) [("opening",3)]) (fun s H C cl fp xe tk=>(zY (i:=3) zaU.nd rfl (lq rfl))) (fun s H C cl fp xe tk=>Zh) (fun s H C cl fp xe tk=>(ZG (pv 3) T.zB.c T.zar.M zf1 hr.q T.zar.b .nil tk.passes (za (pv 1) (za (pv 2) ze))))) ze)))),?_⟩;refine⟨_,rfl,p,_,dx,_,_,rfl,W.at_,T.yW.c,T.zdi,rfl,op,rfl,⟨_,SqL.of W.op⟩,fun D2 hD2=>?_⟩;have s6:∀ys,Same H (upd H D2 (.lst ys)):=fun ys=>(Same.refl _).new hD2;refine Z4 (K:=K) (a:=op) (xs:=as.map V.ref) (fun i H'=>H'=upd H D2 (.lst ((wl.opens.take i).map fun u=>V.bl (u.has x y)))) rfl (fun i H' _ e=>by rw[e];exact SqL.of (s6 _ _ _ W.op)) ?_ ?_
  ·rintro i v H' hi rfl;obtain⟨f,hfi,rfl⟩:=zaD hi;obtain⟨u,hu,df,hf⟩:=Paired.get W.os hfi;have hf':=s6 ((wl.opens.take i).map fun u=>V.bl (u.has x y)) _ _ hf;refine⟨rfl,_,rfl,f,df,_,rfl,hf',rfl,_,rfl,_,rfl,f,u,x,y,rfl,⟨df,hf'⟩,?_⟩;have lo:=W.o8;refine⟨_,zc,(by rw[List.length_map,List.length_take];omega),?_⟩;rw[yB,zV hu,List.map_append];rfl
  ·rintro H6 rfl;rw[List.length_map,Paired.length W.os,List.take_length];refine⟨D2,wl.opens.map fun u=>u.has x y,rfl,SqL.of (by rw[zc,List.map_map];rfl),?_⟩;rw[<-zlw];exact k _ (s6 _)
end
theorem zp9 {l:List V}{n:Nat}:zfU l none (some ((n:Nat):Int))=l.take n:=by
 unfold zfU;have e:HT.sIx l.length l.length (some ((n:Nat):Int))=min n l.length:=HT.sIx_nat _ _ _;rw[e];show(l.drop 0).take (min n l.length-0)=_;rw[List.drop_zero,Nat.sub_zero];by_cases h:n<=l.length
 ·rw[Nat.min_eq_left h]
 ·rw[Nat.min_eq_right (by omega),List.take_length,List.take_of_length_le (by omega)]
theorem zo2 (b:Bd.Bytes) (n:Nat):(iB b).take n=iB (b.take n):=by
 unfold iB;rw[List.map_take]
def zoT (K:PySem.W.Frag):Sp:=fun vs H Q _=>∃(l:Addr) (z:Str) (line wd:Bd.Bytes),vs=[.ref l,.str z]/\z.cps.toList=wd.map (·.toNat)/\wd.length<1000/\SqL K H l (iB line) /\
 ∀H':Hp,Same H H'->Q (.bl (decide (line.take wd.length=wd))) H'
def znE (K:PySem.W.Frag):Sp:=fun vs H Q _=>∃(l:Addr) (as:List Addr) (bs:List Bd.Bytes),vs=[.ref l]/\H l=some (.lst (as.map V.ref))/\Rows H as bs/\(bs.flatMap fun b=>b++[10]).length<=100000 /\
 ∀(H':Hp) (p:Addr),Same H H'->H p=none->H' p=some (.lst (iB (bs.flatMap fun b=>b++[10])))->Q (.ref p) H'
section
variable {P:Program}{w:World}{K:PySem.W.Frag}{mg:Str->Option Value}{base:Heap}{a:Ad}
theorem zdM (T:Txt K mg a):FnOk P w K mg base (CXo P w) true 2 a.zeB a.zev ["line", "start"] (zoT K):=by
 have yX:=zaT (P:=P) (w:=w) (base:=base) T;refine zF T.yc.F zhN (fun vs H Q E h=>?_) (fun cdv A outer s0 H vs Q E hr h=>?_)
 ·obtain⟨l,z,line,wd,rfl,_⟩:=h;rfl
 ·obtain⟨l,z,line,wd,rfl,hw,hwl,hS,k⟩:=h;have zl:=szl;have zlen:z.length=wd.length:=by
   have e:z.cps.toList.length=wd.length:=by rw[hw,List.length_map]
   rw[<-e];show z.cps.size=_;exact Array.length_toList.symm
  refine⟨_,(zi (zL (Zi (zlP hr.units) (zdE zfB (pv 0) zkc (zcW (zK zjQ rfl T.z_len yN (za (pv 1) ze)))) (zD yX hr.q rfl T.zX.m T.zX.F.kp T.zX.b .nil takes_cx.passes (za (pv 1) ze)) (zJ _)))),?_⟩;refine⟨_,rfl,_,rfl,z,rfl,(by omega),_,rfl,l,_,rfl,hS,fun sl nsl=>?_⟩;rw[zlen,zp9,zo2];have s1:Same H (upd H sl (.lst (iB (line.take wd.length)))):=(Same.refl _).new nsl;have h1:upd H sl (.lst (iB (line.take wd.length))) sl=some (.lst (iB (line.take wd.length))):=zc;generalize upd H sl (.lst (iB (line.take wd.length)))=H1 at s1 h1;refine⟨_,rfl,z,rfl,(by rw[hw,List.length_map];exact hwl),fun H2 p2 s2 n2 e2=>?_⟩;have ez:(z.cps.toList.map fun n=>V.int ((n:Nat):Int))=iB wd:=by
   rw[hw,List.map_map];rfl
  rw[ez] at e2;refine⟨_,_,zdc (SqL.of (s2 _ _ h1)),zdc (SqL.of e2),yy _,yy _,?_⟩;rw[zfR];exact k _ (s1.trans s2)
theorem zgS (T:Txt K mg a):FnOk P w K mg base (CXo P w) true 1 a.zdR a.zdY ["lines"] (znE K):=by
 refine zF T.Z9.F zaX (fun vs H Q E h=>?_) (fun cdv A outer s0 H vs Q E hr h=>?_)
 ·obtain⟨l,as,bs,rfl,_⟩:=h;rfl
 ·obtain⟨l,as,bs,rfl,hl,rows,tot,k⟩:=h;have zl:=szl;have lab:as.length=bs.length:=Paired.length rows;have part:∀i,((bs.take i).flatMap fun b=>b++[10]).length<=(bs.flatMap fun b=>b++[10]).length:=fun i=>by
   conv=>rhs;rw[<-List.take_append_drop i bs,List.flatMap_append,List.length_append]
   omega
  refine⟨_,(zh (z6 (i:=1) zaX.nd rfl (lq rfl) (z7 ze))
   (zh (zcV takes_cx.po rfl (yC (pv 0)) (zY (i:=2) zaX.nd rfl (lq rfl)) (zh (yr (zct PySem.F.plainAttrs_list PySem.F.slot_list_extend PySem.F.type_list_extend zjf (pv 1) (za (pv 2) ze)))
   (zi (yr (zct PySem.F.plainAttrs_list PySem.F.slot_list_append PySem.F.type_list_append ZN (pv 1) (za (zr (v:=.int 10) rfl T.zgI ⟨_,rfl⟩) ze))))))
   (zi (zL (pv 1))))),?_⟩
  refine⟨Nat.zero_le _,fun p np=>?_⟩;have s1:Same H (upd H p (.lst [])):=(Same.refl _).new np;refine⟨_,rfl,l,rfl,⟨_,SqL.of (s1 _ _ hl)⟩,zby (K:=K) (a:=l) (xs:=as.map V.ref) (fun i σ H'=>∃v:Option V,σ=[some (.ref l),some (.ref p),v]/\Same H H'/\H' p=some (.lst (iB ((bs.take i).flatMap fun b=>b++[10]))))
   ⟨none,rfl,s1,zc⟩ (fun i σ H' _ ⟨_,_,s,_⟩=>SqL.of (s _ _ hl)) ?_ ?_⟩
  ·rintro i y σ H' hi ⟨v,rfl,s2,hp⟩;obtain⟨q,hq,rfl⟩:=zaD hi;obtain⟨b,hb,hqb⟩:=Paired.get rows hq;have ti:((bs.take (i+1)).flatMap fun b=>b++[10])=((bs.take i).flatMap fun b=>b++[10])++(b++[10]):=by
    rw[zV hb,List.flatMap_append];simp
   have tl:=part (i+1);rw[ti,List.length_append,List.length_append] at tl;have tl':((bs.take i).flatMap fun b=>b++[10]).length+(b.length+1)<=(bs.flatMap fun b=>b++[10]).length:=tl;refine⟨_,rfl,.inl ⟨rfl,_,SqL.of hp⟩,_,rfl,p,q,_,_,rfl,rfl,hp,s2 _ _ hqb,(by rw[zas,zas];omega),?_⟩;refine⟨_,rfl,.inl ⟨rfl,_,SqL.of zc⟩,p,_,_,rfl,rfl,zc,(by rw[List.length_append,zas,zas];omega),?_⟩;refine⟨_,rfl,(s2.set np).set np,?_⟩;rw[zc,ti];unfold iB;rw[List.map_append,List.map_append];simp
  ·rintro σ H' ⟨v,rfl,s2,hp⟩;rw[List.length_map,lab,List.take_length] at hp;exact⟨_,rfl,k _ p s2 np hp⟩
end
def crF (t1 t2:Addr):List (Str×V):=[("first",.ref t1),("second",.ref t2)]
def eI (a e:Nat):List Int:=[((a:Nat):Int),((e:Nat):Int)]
def CrT (C:Addr) (H:Hp) (q dx t1 t2:Addr) (k:Bd.Corner):Prop:=H q=some (.ins C dx (crF t1 t2))/\H t1=some (.tup ((eI k.a k.ea).map V.int))/\H t2=some (.tup ((eI k.c k.ec).map V.int))
def CrAt (C:Addr) (H:Hp) (q:Addr) (k:Bd.Corner):Prop:=∃dx t1 t2,CrT C H q dx t1 t2 k
theorem CrAt.same {C:Addr}{H H':Hp}{q:Addr}{k:Bd.Corner}(s:Same H H') (h:CrAt C H q k):CrAt C H' q k:=let ⟨dx,t1,t2,e1,e2,e3⟩:=h;⟨dx,t1,t2,s _ _ e1,s _ _ e2,s _ _ e3⟩
abbrev Crs (C:Addr) (H:Hp):List Addr->List Bd.Corner->Prop:=Paired (CrAt C H)
theorem Crs.same {C:Addr}{H H':Hp}{as:List Addr}{l:List Bd.Corner}(s:Same H H') (r:Crs C H as l):Crs C H' as l:=Paired.mapP r fun _ _ h=>h.same s
abbrev Walls (CW CO:Addr) (H:Hp):List Addr->List Bd.Wall->Prop:=Paired fun p w=>∃dx op v0 as,WallIs CW CO H p dx op v0 as w/\∃q,v0=.ref q/\H q=some (.lst (iB w.name))
theorem Walls.same {CW CO:Addr}{H H':Hp}{as:List Addr}{l:List Bd.Wall}(s:Same H H') (r:Walls CW CO H as l):Walls CW CO H' as l:=Paired.mapP r fun _ _ ⟨dx,op,v0,bs,W,q,e,h⟩=>⟨dx,op,v0,bs,W.same s,q,e,s _ _ h⟩
def zau (l:List Bd.Corner):List (List Int):=l.flatMap fun k=>[eI k.a k.ea,eI k.c k.ec]
theorem zlq (l:List Bd.Corner):(zau l).length=2*l.length:=by
 unfold zau
 induction l with
 |nil=>rfl
 |cons k l ih =>
  rw[List.flatMap_cons,List.length_append,ih];show 2+2*l.length=2*(l.length+1);omega
theorem zqw {a e b f:Nat}:eI a e=eI b f↔a=b/\e=f:=by
 unfold eI;constructor
 ·intro h;have h1:=List.cons.inj h;have h2:=List.cons.inj h1.2;exact⟨by omega,by omega⟩
 ·rintro⟨rfl,rfl⟩;rfl
theorem zeG (l:List Bd.Corner) (a e:Nat):(zau l).contains (eI a e)=l.any fun m=>m.uses a e:=by
 rw[Bool.eq_iff_iff,List.contains_iff_mem,List.any_eq_true];unfold zau;rw[List.mem_flatMap];refine exists_congr fun k=>and_congr_right fun _=>?_;unfold Bd.Corner.uses;simp only[List.mem_cons,List.mem_nil_iff,or_false,zqw,Bool.or_eq_true,Bool.and_eq_true,beq_iff_eq];constructor
 ·rintro(⟨h1,h2⟩|⟨h1,h2⟩)
  ·exact .inl ⟨h1.symm,h2.symm⟩
  ·exact .inr ⟨h1.symm,h2.symm⟩
 ·rintro(⟨h1,h2⟩|⟨h1,h2⟩)
  ·exact .inl ⟨h1.symm,h2.symm⟩
  ·exact .inr ⟨h1.symm,h2.symm⟩
def znF (C:Addr):Sp:=fun vs H Q _=>∃(p dx:Addr) (v0 v1:V),vs=[.ref p,v0,v1]/\H p=some (.ins C dx []) /\
 ∀H':Hp,H' p=some (.ins C dx [("first",v0),("second",v1)])->(∀b,b≠p->H' b=H b)->Q .non H'
def zhH (walls:List Bd.Wall) (n e:Bd.Bytes):Option (Nat×Nat):=match walls.findIdx? (fun(v:Bd.Wall)=>v.name == n),Bd.sideIn e with
 |some a,some ea=>some (a,ea)
 |_,_=>none
def znk (CW CO CL:Addr):Sp:=fun vs H Q E=>∃(l wl f1 f2:Addr) (ws:List Addr) (walls:List Bd.Wall) (n e:Bd.Bytes),vs=[.ref l,.ref wl]/\H l=some (.lst [.ref f1,.ref f2])/\H f1=some (.lst (iB n))/\H f2=some (.lst (iB e)) /\
 H wl=some (.lst (ws.map V.ref))/\Walls CW CO H ws walls/\walls.length<=4 /\
 match zhH walls n e with
 |none=>Fails CL E H 8
 |some z=>∀(H':Hp) (t:Addr),Same H H'->H' t=some (.tup ((eI z.1 z.2).map V.int))->Q (.ref t) H'
def zof (K:PySem.W.Frag) (CW CO CC CL:Addr):Sp:=fun vs H Q E=>∃(l wl:Addr) (line:Bd.Bytes) (ws:List Addr) (walls:List Bd.Wall),vs=[.ref l,.ref wl]/\SqL K H l (iB line)/\line.length<=10000 /\
 H wl=some (.lst (ws.map V.ref))/\Walls CW CO H ws walls/\walls.length<=4 /\
 match Bd.cornerIn walls line with
 |none=>Fails CL E H 8
 |some k=>∀(H':Hp) (p:Addr),Same H H'->CrAt CC H' p k->Q (.ref p) H'
def zo0 (CC:Addr):Sp:=fun vs H Q _=>∃(l:Addr) (ks:List Addr) (cs:List Bd.Corner),vs=[.ref l]/\H l=some (.lst (ks.map V.ref))/\Crs CC H ks cs/\cs.length<=100 /\
 ∀(H':Hp) (p:Addr) (ts:List Addr),Same H H'->H' p=some (.lst (ts.map V.ref))->Tups H' ts (zau cs)->Q (.ref p) H'
def zpf (CW CO:Addr):Sp:=fun vs H Q _=>∃(p dx op:Addr) (v0:V) (as:List Addr) (w:Bd.Wall) (e:Nat),vs=[.ref p,.int ((e:Nat):Int)]/\WallIs CW CO H p dx op v0 as w/\Q (.int ((w.endOf e:Nat):Int)) H
def zcX (w:Bd.Wall) (e:Nat):Nat:=if e=0 then 0 else w.long-1
def zng (CW CO:Addr):Sp:=fun vs H Q _=>∃(p dx op:Addr) (v0:V) (as:List Addr) (w:Bd.Wall) (e:Nat),vs=[.ref p,.int ((e:Nat):Int)]/\WallIs CW CO H p dx op v0 as w/\1<=w.long/\Q (.int ((zcX w e:Nat):Int)) H
def zgf (walls:List Bd.Wall) (l:List Bd.Corner) (i e:Nat):Bool:=match walls[i]? with
 |none=>false
 |some w=>w.solidAt e&&zcT walls l i e
def zqT (CW CO:Addr):Sp:=fun vs H Q _=>∃(t wl tl:Addr) (ws ts:List Addr) (walls:List Bd.Wall) (cs:List Bd.Corner) (i e:Nat),vs=[.ref t,.ref wl,.ref tl]/\H t=some (.tup ((eI i e).map V.int))/\H wl=some (.lst (ws.map V.ref))/\Walls CW CO H ws walls /\
 H tl=some (.lst (ts.map V.ref))/\Tups H ts (zau cs)/\i<walls.length/\e<=1/\(∀w∈walls,1<=w.long)/\∀H':Hp,Same H H'->Q (.bl (zgf walls cs i e)) H'
def goB (walls:List Bd.Wall) (l:List Bd.Corner) (k:Bd.Corner):Bool:=match walls[k.a]?,walls[k.c]? with
 |some v,some w=>v.high == w.high&&(((v.endOf k.ea == 1&&w.endOf k.ec == 2)||(v.endOf k.ea == 2&&w.endOf k.ec == 1))&&(zgf walls l k.a k.ea&&zgf walls l k.c k.ec))
 |_,_=>false
def zrz (CW CO CC:Addr):Sp:=fun vs H Q _=>∃(p wl tl:Addr) (ws ts:List Addr) (walls:List Bd.Wall) (cs:List Bd.Corner) (k:Bd.Corner),vs=[.ref p,.ref wl,.ref tl]/\CrAt CC H p k/\H wl=some (.lst (ws.map V.ref))/\Walls CW CO H ws walls /\
 H tl=some (.lst (ts.map V.ref))/\Tups H ts (zau cs)/\k.a<walls.length/\k.c<walls.length/\k.ea<=1/\k.ec<=1/\(∀w∈walls,1<=w.long)/\∀H':Hp,Same H H'->Q (.bl (goB walls cs k)) H'
def zlv (K:PySem.W.Frag) (CW CO CC CL:Addr):Sp:=fun vs H Q E=>∃(l wl bl:Addr) (line:Bd.Bytes) (ws ks:List Addr) (walls:List Bd.Wall) (cs:List Bd.Corner),vs=[.ref l,.ref wl,.ref bl]/\SqL K H l (iB line)/\line.length<=10000 /\
 H wl=some (.lst (ws.map V.ref))/\Walls CW CO H ws walls/\walls.length<=4/\(∀w∈walls,1<=w.long)/\H bl=some (.lst (ks.map V.ref))/\Crs CC H ks cs/\cs.length<=8/\Bd.longEnough walls cs=true /\
 match za9 walls cs line with
 |.error k=>Fails CL E H k
 |.ok k=>∀(H':Hp) (p:Addr),Same H H'->CrAt CC H' p k->Q (.ref p) H'
theorem zjc {α:Type}(p:α->Bool) (f:α->List Int) (y:List Int) (hp:∀v,p v=true↔f v=y) (l:List α):match l.findIdx? p with
  |none=>(l.map f).contains y=false
  |some a=>(l.map f).contains y=true/\(l.map f)[a]?=some y/\∀m,m<a->(l.map f)[m]?≠some y:=by
 cases h:l.findIdx? p with
 |none =>
  rw[List.findIdx?_eq_none_iff] at h;rw[Bool.eq_false_iff];intro z;rw[List.contains_iff_mem,List.mem_map] at z;obtain⟨v,hv,e⟩:=z;have:=h v hv;rw[(hp v).mpr e] at this;cases this
 |some a =>
  rw[List.findIdx?_eq_some_iff_getElem] at h;obtain⟨hl,h1,h2⟩:=h;have e:(l.map f)[a]?=some y:=by rw[List.getElem?_map,List.getElem?_eq_getElem hl,Option.map_some,(hp _).mp h1]
  refine⟨?_,e,fun m hm z=>?_⟩
  ·rw[List.contains_iff_mem];exact List.mem_of_getElem? e
  ·have hml:m<l.length:=by omega
   rw[List.getElem?_map,List.getElem?_eq_getElem hml,Option.map_some] at z;have:=h2 m hm;exact absurd ((hp _).mpr (Option.some.inj z)) this
def endNames:List Bd.Bytes:=[Bd.ascii "left",Bd.ascii "right"]
theorem zom (e:Bd.Bytes):Bd.sideIn e=endNames.findIdx? fun w=>w == e:=by
 unfold Bd.sideIn endNames;rw[List.findIdx?_cons,List.findIdx?_cons];by_cases h1:e=Bd.ascii "left"
 ·rw[if_pos h1,if_pos (by rw[h1];exact beq_self_eq_true _)]
 ·rw[if_neg h1,if_neg (fun z=>h1 (beq_iff_eq.mp z).symm)];by_cases h2:e=Bd.ascii "right"
  ·rw[if_pos h2,if_pos (by rw[h2];exact beq_self_eq_true _)];rfl
  ·rw[if_neg h2,if_neg (fun z=>h2 (beq_iff_eq.mp z).symm)];rfl
theorem Lsts.same {H H':Hp}{as:List Addr}{l:List (List Int)}(s:Same H H') (r:Lsts H as l):Lsts H' as l:=Paired.mapP r fun _ _ h=>s _ _ h
theorem Lsts.upd {H:Hp}{z:Addr}{o:HO}:∀{as:List Addr}{l:List (List Int)},Lsts H as l->z∉as->Lsts (upd H z o) as l
 |_,_,.nil,_=>.nil
 |_,_,.cons h t,n=>.cons (by rw[zd (fun q=>n (by simp[q]))];exact h) (Lsts.upd t fun q=>n (by simp[q]))
section
variable {P:Program}{w:World}{K:PySem.W.Frag}{mg:Str->Option Value}{base:Heap}{a:Ad}
theorem zeO (T:Txt K mg a):FnOk P w K mg base (CXo P w) true 1 a.zbC a.zbG ["self", "first", "second"] (znF a.z4):=by
 refine zF T.Z3.F ze4 (fun vs H Q E h=>?_) (fun cdv A outer s0 H vs Q E hr h=>?_)
 ·obtain⟨p,dx,v0,v1,rfl,_⟩:=h;rfl
 ·obtain⟨p,dx,v0,v1,rfl,hp,k⟩:=h;refine⟨_,(zh (yM (pv 0) (pv 1) rfl)
   (zi (yM (pv 0) (pv 2) rfl))),?_⟩
  refine⟨_,rfl,_,rfl,p,_,dx,_,rfl,hp,T.z0.c,T.zW,(by show 0<1000;decide),?_⟩;refine⟨_,rfl,_,rfl,p,_,dx,_,rfl,zc,T.z0.c,T.yg,(by show 1<1000;decide),?_⟩;rw[yB];exact k _ zc fun b hb=>zd hb
theorem zkM (T:Txt K mg a):FnOk P w K mg base (CXo P w) true 3 a.zhj a.zhw ["fields", "walls"] (znk a.yj a.zn a.zm):=by
 have zf:=zy (P:=P) (w:=w) (base:=base) (cm:=true) T;have yX:=zaT (P:=P) (w:=w) (base:=base) T;refine zF T.ZH.F zaM (fun vs H Q E h=>?_) (fun cdv A outer s0 H vs Q E hr h=>?_)
 ·obtain⟨l,wl,f1,f2,ws,walls,n,e,rfl,_⟩:=h;rfl
 ·obtain⟨l,wl,f1,f2,ws,walls,n,e,rfl,hl,h1,h2,hw,wls,w4,k⟩:=h;have zl:=szl;have lws:ws.length=walls.length:=Paired.length wls;refine⟨_,(zh (zbd (i:=2) takes_cx rfl rfl (own:=[("wall",3)]) rfl zaM.nd rfl rfl rfl (yC (pv 1)) (bkq ["fields", "walls", "names", "wall", "words", "word"] (zk zcJ) [("wall",3)]) (fun s H C cl fp xe tk=>(zY (i:=3) zaM.nd rfl (lq rfl))) (fun s H C cl fp xe tk=>Zh) (fun s H C cl fp xe tk=>(zd9 (K:=K) rfl (pv 3) rfl)))
   (zh (zbd (i:=4) takes_cx rfl rfl (own:=[("word",5)]) rfl zaM.nd rfl rfl rfl (zqn (zr (v:=.ref a.ZD) rfl T.zig rfl)) (bkq ["fields", "walls", "names", "wall", "words", "word"] (zk zcJ) [("word",5)]) (fun s H C cl fp xe tk=>(zY (i:=5) zaM.nd rfl (lq rfl))) (fun s H C cl fp xe tk=>Zh) (fun s H C cl fp xe tk=>(zD yX hr.q rfl T.zX.m T.zX.F.kp T.zX.b .nil tk.passes (za (pv 5) ze))))
   (zh (yf (PW.pt (ziG (zH (zeA hr.units) (zS zN (pv 0) zq (fun _ _=>rfl)) (pv 2) rfl) (zfQ (zH (zeA hr.units) (zS zN (pv 0) zq (fun _ _=>rfl)) (pv 4) rfl)))) (zi (zQ takes_cx rfl (zP (T.zj.k0 T.zb) zf hr.q rfl T.zj.m T.zb.b takes_cx (za (zr (v:=.int 8) rfl T.zbR ⟨_,rfl⟩) ze)))) zO)
   (zi (zL (zj3 (za (zct PySem.F.plainAttrs_list PySem.F.slot_list_index PySem.F.type_list_index (ziW hr.units) (pv 2) (za (zS zN (pv 0) zq (fun _ _=>rfl)) ze)) (za (zct PySem.F.plainAttrs_list PySem.F.slot_list_index PySem.F.type_list_index (ziW hr.units) (pv 4) (za (zS zN (pv 0) zq (fun _ _=>rfl)) ze)) ze)))))))),?_⟩
  refine⟨_,rfl,wl,rfl,⟨_,SqL.of hw⟩,fun Dn hDn=>Z4 (K:=K) (a:=wl) (xs:=ws.map V.ref) (fun i H'=>∃qs:List Addr,Same H H'/\H' Dn=some (.lst (qs.map V.ref))/\Lsts H qs ((walls.take i).map fun v=>jB v.name))
   ⟨[],(Same.refl _).new hDn,zc,.nil⟩ (fun i H' _ ⟨_,s,_⟩=>SqL.of (s _ _ hw)) ?_ ?_⟩
  ·rintro i v H' hi ⟨qs,s1,hD,ls⟩;obtain⟨f,hfi,rfl⟩:=zaD hi;obtain⟨u,hu,dx,op,v0,as,W,q,rfl,hq⟩:=Paired.get wls hfi;have W1:=W.same s1;have lq:=Paired.length ls;rw[List.length_map,List.length_take] at lq;refine⟨rfl,_,rfl,f,_,dx,_,_,rfl,W1.at_,T.yW.c,T.zgF,rfl,_,hD,(by rw[List.length_map];omega),qs++[q],s1.set hDn,?_,?_⟩
   ·rw[zc,List.map_append];rfl
   ·rw[zV hu,List.map_append];refine Paired.snoc ls ?_;rw[hq,zhK]
  ·rintro H1 ⟨qs,s1,hD,ls⟩;rw[List.length_map,lws,List.take_length] at ls;have ls1:=Lsts.same s1 ls;refine⟨a.ZD,rfl,⟨_,T.zes _⟩,fun Dw hDw=>zqB (K:=K) (a:=a.ZD) (xs:=[.str "left",.str "right"]) (fun i H'=>∃us:List Addr,Same H1 H'/\H' Dw=some (.lst (us.map V.ref))/\Lsts H' us ((endNames.take i).map jB)/\Dw∉us)
    ⟨[],(Same.refl _).new hDw,zc,.nil,by simp⟩ (fun i H' _ _=>T.zes _) ?_ ?_⟩
   ·rintro i v H' hi ⟨us,s2,hW,lu,nu⟩;obtain⟨z,b,rfl,hz,hb,bl⟩:∃(z:Str) (b:Bd.Bytes),v=.str z/\z.cps.toList=b.map (·.toNat)/\endNames[i]?=some b/\b.length<1000:=by
     match i,hi with
     |0,hi=>exact⟨_,_,(Option.some.inj hi).symm,by decide,rfl,by decide⟩
     |1,hi=>exact⟨_,_,(Option.some.inj hi).symm,by decide,rfl,by decide⟩
     |i+2,hi=>simp at hi
    refine⟨rfl,_,rfl,z,rfl,(by rw[hz,List.length_map];exact bl),fun H2 p2 s3 n2 e2=>?_⟩;have ez:(z.cps.toList.map fun n=>V.int ((n:Nat):Int))=(jB b).map V.int:=by
     rw[hz,List.map_map,<-zhK];rfl
    rw[ez] at e2;have lu2:=Paired.length lu;rw[List.length_map,List.length_take] at lu2;have l2:endNames.length=2:=rfl;have hW2:=s3 _ _ hW;have pd:Dw≠p2:=zg hW n2;refine⟨_,hW2,(by rw[List.length_map];omega),us++[p2],(s2.trans s3).set hDw,?_,?_,?_⟩
    ·rw[zc,List.map_append];rfl
    ·rw[zV hb,List.map_append];exact Paired.snoc (Lsts.upd (Lsts.same s3 lu) nu) (by rw[zd (Ne.symm pd)];exact e2)
    ·simp only[List.mem_append,List.mem_singleton,not_or];exact⟨nu,pd⟩
   ·rintro H2 ⟨us,s2,hW,lu,nu⟩;have lu:Lsts H2 us (endNames.map jB):=lu;have s12:=s1.trans s2;have ls2:=Lsts.same s2 ls1;have hD2:=s2 _ _ hD;have c1:=zjc (fun(v:Bd.Wall)=>v.name == n) (fun v=>jB v.name) (jB n) (fun v=>by rw[beq_iff_eq];exact jB_inj.symm) walls;have c2:=zjc (fun(v:Bd.Bytes)=>v == e) jB (jB e) (fun v=>by rw[beq_iff_eq];exact jB_inj.symm) endNames;rw[<-zom] at c2;unfold zhH at k;have q1:SqL K H2 f1 ((jB n).map V.int):=by rw[<-zhK];exact SqL.of (s12 _ _ h1)
    have q2:SqL K H2 f2 ((jB e).map V.int):=by rw[<-zhK];exact SqL.of (s12 _ _ h2)
    have ql:=s12 _ _ hl;dsimp only[zc4,zgR,ziE];refine zpV (x:=!(walls.map fun v=>jB v.name).contains (jB n)) (y:=!(endNames.map jB).contains (jB e))
     (fun R r=>⟨_,rfl,l,_,_,_,rfl,rfl,SqL.of ql,zE (j:=0) rfl,_,rfl,f1,Dn,jB n,qs,_,rfl,rfl,q1,SqL.of hD2,ls2,_,rfl,?_⟩)
     (fun _ R r=>⟨_,rfl,l,_,_,_,rfl,rfl,SqL.of ql,zE (j:=1) rfl,_,rfl,f2,Dw,jB e,us,_,rfl,rfl,q2,SqL.of hW,lu,_,rfl,?_⟩) ?_
    ·rw[if_pos rfl];exact r
    ·rw[if_pos rfl];exact r
    cases ha:walls.findIdx? (fun(v:Bd.Wall)=>v.name == n) with
    |none =>
     rw[ha] at c1 k;rw[c1];exact yk (zA T (k.same s12))
    |some a' =>
     rw[ha] at c1 k;rw[c1.1];cases he:Bd.sideIn e with
     |none =>
      rw[he] at c2 k;rw[c2];exact yk (zA T (k.same s12))
     |some ea =>
      rw[he] at c2 k;rw[c2.1];refine yw ⟨_,rfl,.inl ⟨rfl,_,SqL.of hD2⟩,_,rfl,l,_,_,_,rfl,rfl,SqL.of ql,zE (j:=0) rfl,Dn,f1,jB n,qs,_,a',rfl,rfl,q1,SqL.of hD2,ls2,c1.2.1,c1.2.2,
       _,rfl,.inl ⟨rfl,_,SqL.of hW⟩,_,rfl,l,_,_,_,rfl,rfl,SqL.of ql,zE (j:=1) rfl,Dw,f2,jB e,us,_,ea,rfl,rfl,q2,SqL.of hW,lu,c2.2.1,c2.2.2,(by show 2<=sizeLine;decide),fun t nt=>?_⟩
      exact k _ t (s12.new nt) zc
end
def zhy (walls:List Bd.Wall) (n e m f:Bd.Bytes):Option Bd.Corner:=match zhH walls n e,zhH walls m f with
 |some x,some y=>if x.1<y.1 then some ⟨x.1,x.2,y.1,y.2⟩ else none
 |_,_=>none
def zjL (walls:List Bd.Wall):List Bd.Bytes->Option Bd.Corner
 |[w,n,e,m,f]=>if w=Bd.ascii "corner" then zhy walls n e m f else none
 |_=>none
theorem zhl (walls:List Bd.Wall) (x:Bd.Bytes):Bd.cornerIn walls x=zjL walls (zR 32 x):=by
 unfold Bd.cornerIn;rw[zbq];generalize zR 32 x=r
 match r with
 |[]=>rfl
 |[_]=>rfl
 |[_,_]=>rfl
 |[_,_,_]=>rfl
 |[_,_,_,_]=>rfl
 |_::_::_::_::_::_::_=>rfl
 |[w,n,e,m,f] =>
  show(if w=Bd.ascii "corner" then _ else none)=if w=Bd.ascii "corner" then zhy walls n e m f else none
  by_cases h:w=Bd.ascii "corner"
  ·rw[if_pos h,if_pos h];unfold zhy zhH;cases walls.findIdx? (fun(v:Bd.Wall)=>v.name == n) <;> cases Bd.sideIn e <;> cases walls.findIdx? (fun(v:Bd.Wall)=>v.name == m) <;> cases Bd.sideIn f <;> rfl
  ·rw[if_neg h,if_neg h]
theorem zka (walls:List Bd.Wall):∀{r:List Bd.Bytes},r.length≠5->zjL walls r=none
 |[],_=>rfl
 |[_],_=>rfl
 |[_,_],_=>rfl
 |[_,_,_],_=>rfl
 |[_,_,_,_],_=>rfl
 |[_,_,_,_,_],h=>absurd rfl h
 |_::_::_::_::_::_::_,_=>rfl
theorem zp3 (a e b f:Nat):HT.lexLe (eI a e) (eI b f)=!(decide (b<a)||(b == a&&decide (f<e))):=by
 unfold eI;rw[HT.lexLe_cons,HT.lexLe_cons,HT.lexLe_nil_nil,Bool.eq_iff_iff,Bool.not_eq_true',Bool.or_eq_false_iff,Bool.and_eq_false_iff,decide_eq_false_iff_not,decide_eq_false_iff_not];by_cases h:((a:Nat):Int)=((b:Nat):Int)
 ·rw[if_pos h];have h':b=a:=by omega
  by_cases h2:((e:Nat):Int)=((f:Nat):Int)
  ·rw[if_pos h2];simp only[true_iff];exact⟨by omega,.inr (by omega)⟩
  ·rw[if_neg h2,decide_eq_true_eq];constructor
   ·intro q;exact⟨by omega,.inr (by omega)⟩
   ·rintro⟨_,q|q⟩
    ·rw[h'] at q;simp at q
    ·omega
 ·rw[if_neg h,decide_eq_true_eq];constructor
  ·intro q;refine⟨by omega,.inl ?_⟩;rw[Bool.eq_false_iff];intro z;exact h (by rw[beq_iff_eq.mp z])
  ·rintro⟨q,_⟩;omega
theorem zlL {x y:Int}{ns:List Int}(p:ns.Perm [x,y]) (s:ns.Pairwise (·<=·)):decide (ns=[1,2])=((decide (x=1)&&decide (y=2))||(decide (x=2)&&decide (y=1))):=by
 have l:ns.length=2:=p.length_eq
 match ns,l,p,s with
 |[u,v],_,p,s =>
  have uv:u<=v:=(List.pairwise_cons.mp s).1 v (by simp);have c:(u=x/\v=y)\/(u=y/\v=x):=by
   have q1:u∈[x,y]:=p.subset (by simp);simp only[List.mem_cons,List.mem_nil_iff,or_false] at q1;rcases q1 with q|q
   ·subst q;have z:=(List.perm_cons u).mp p;have z2:=List.perm_singleton.mp z;exact .inl ⟨rfl,(List.cons.inj z2).1⟩
   ·subst q;have z:=(List.perm_cons u).mp (p.trans (List.Perm.swap u x []));have z2:=List.perm_singleton.mp z;exact .inr ⟨rfl,(List.cons.inj z2).1⟩
  rw[Bool.eq_iff_iff];simp only[Bool.or_eq_true,Bool.and_eq_true,decide_eq_true_eq,List.cons.injEq,and_true];omega
section
variable {P:Program}{w:World}{K:PySem.W.Frag}{mg:Str->Option Value}{base:Heap}{a:Ad}
theorem zhp (T:Txt K mg a):FnOk P w K mg base (CXo P w) true 4 a.zey a.zeE ["line", "walls"] (zof K a.yj a.zn a.z4 a.zm):=by
 have zf:=zy (P:=P) (w:=w) (base:=base) (cm:=true) T;have yX:=zaT (P:=P) (w:=w) (base:=base) T;have zbr:=zdD (P:=P) (w:=w) (base:=base) T;have zh7:=zkM (P:=P) (w:=w) (base:=base) T;have zff:=zeO (P:=P) (w:=w) (base:=base) T;refine zF T.zaz.F zbi (fun vs H Q E h=>?_) (fun cdv A outer s0 H vs Q E hr h=>?_)
 ·obtain⟨l,wl,line,ws,walls,rfl,_⟩:=h;rfl
 ·obtain⟨l,wl,line,ws,walls,rfl,hS,hl,hw,wls,w4,k⟩:=h;have zl:=szl;refine⟨_,(zh (z6 (i:=2) zbi.nd rfl (lq rfl) (zD zbr hr.q rfl T.yL.m T.yL.F.kp T.yL.b .nil takes_cx.passes (za (pv 0) (za (zr (v:=.int 32) rfl T.zmB ⟨_,rfl⟩) ze))))
   (zh (yf (PW.pt (ziG (zH zmq (zK zG rfl T.z_len yN (za (pv 2) ze)) zq (zJ _)) (zfQ (zH (zhc hr.units) (zS zN (pv 2) zq (fun _ _=>rfl)) (zD yX hr.q rfl T.zX.m T.zX.F.kp T.zX.b .nil takes_cx.passes (za (zr (v:=.str "corner") rfl T.zif ⟨_,rfl⟩) ze)) (zJ _))))) (zi (zQ takes_cx rfl (zP (T.zj.k0 T.zb) zf hr.q rfl T.zj.m T.zb.b takes_cx (za (zr (v:=.int 8) rfl T.zbR ⟨_,rfl⟩) ze)))) zO)
   (zh (z6 (i:=3) zbi.nd rfl (lq rfl) (zg4 (T.z0.k0 T.Z3) zff hr.q rfl T.z0.m T.Z3.b .nil takes_cx.passes (za (zD zh7 hr.q rfl T.ZH.m T.ZH.F.kp T.ZH.b .nil takes_cx.passes (za (zdE zfB (pv 2) (zcW zq) (zcW zq)) (za (pv 1) ze))) (za (zD zh7 hr.q rfl T.ZH.m T.ZH.F.kp T.ZH.b .nil takes_cx.passes (za (zdE zfB (pv 2) (zcW zq) (zcW zq)) (za (pv 1) ze))) ze))))
   (zh (yf (zH zpT (zS Z0 (zo (pv 3) rfl) zq (fun _ _=>rfl)) (zS Z0 (zo (pv 3) rfl) zq (fun _ _=>rfl)) (zJ _)) (zi (zQ takes_cx rfl (zP (T.zj.k0 T.zb) zf hr.q rfl T.zj.m T.zb.b takes_cx (za (zr (v:=.int 8) rfl T.zbR ⟨_,rfl⟩) ze)))) zO)
   (zi (zL (pv 3))))))),?_⟩
  refine⟨_,rfl,l,line,32,rfl,hS,hl,fun H1 p as s1 np fr hp rows=>?_⟩;have lr:as.length=(zR 32 line).length:=Paired.length rows;rw[zhl] at k;generalize zR 32 line=r at rows lr k;by_cases h5:r.length=5
  rotate_left
  ·dsimp only[zc4,zgR,ziE];refine zjn (x:=true) (y:=true) (fun H6=>Same H1 H6) (fun R r'=>⟨_,rfl,p,_,rfl,.inl (SqL.of hp),rfl,_,rfl,?_⟩) (fun z=>nomatch z) fun H6 s6=>?_
   ·rw[show(!decide (V.int (((as.map V.ref).length:Nat):Int)=V.int 5))=true by
     rw[decide_eq_false]
     ·rfl
     ·intro z;have z':=V.int.inj z;rw[List.length_map] at z';omega]
    exact r' _ (Same.refl _)
   ·rw[zka walls h5] at k;exact yk (zA T (k.same (s1.trans s6)))
  obtain⟨y0,y1,y2,y3,y4,rfl⟩:∃y0 y1 y2 y3 y4,r=[y0,y1,y2,y3,y4]:=by
   match r,h5 with
   |[y0,y1,y2,y3,y4],_=>exact⟨_,_,_,_,_,rfl⟩
  match as,rows with
  |[f0,f1,f2,f3,f4],.cons g0 (.cons g1 (.cons g2 (.cons g3 (.cons g4 .nil)))) =>
   clear lr;have ek:zjL walls [y0,y1,y2,y3,y4]=if y0=Bd.ascii "corner" then zhy walls y1 y2 y3 y4 else none:=rfl
   rw[ek] at k;dsimp only[zc4,zgR,ziE];refine zjn (x:=false) (y:=!decide (y0=Bd.ascii "corner")) (fun H6=>Same H1 H6) (fun R r'=>⟨_,rfl,p,_,rfl,.inl (SqL.of hp),rfl,_,rfl,r' _ (Same.refl _)⟩) (fun _ H5 s5 R r'=>?_) fun H2 s2=>?_
   ·refine⟨_,rfl,p,_,_,_,rfl,rfl,SqL.of (s5 _ _ hp),zE (j:=0) rfl, "corner",rfl,(by decide),fun H6 p2 s6 n2 e2=>?_⟩;have ez:(("corner" : Str).cps.toList.map fun n=>V.int ((n:Nat):Int))=iB (Bd.ascii "corner"):=by decide
    rw[ez] at e2;refine⟨_,_,zdc (SqL.of (s6 _ _ (s5 _ _ g0))),zdc (SqL.of e2),yy _,yy _,_,rfl,?_⟩;rw[zfR];exact r' _ (s5.trans s6)
   ·rw[Bool.false_or];by_cases hc:y0=Bd.ascii "corner"
    rotate_left
    ·rw[decide_eq_false hc];rw[if_neg hc] at k;exact yk (zA T (k.same (s1.trans s2)))
    rw[decide_eq_true hc];rw[if_pos hc] at k;refine yw ?_;unfold zhy at k;have s12:=s1.trans s2;have hp2:=s2 _ _ hp;refine⟨_,rfl,1,rfl,3,rfl,p,_,rfl,SqL.of hp2,fun q1 nq1=>?_⟩;rw[show zfU ([f0,f1,f2,f3,f4].map V.ref) (some 1) (some 3)=[.ref f1,.ref f2] from rfl];have s3:=s12.new (o:=.lst [.ref f1,.ref f2]) nq1;have t3:=s2.new (o:=.lst [.ref f1,.ref f2]) nq1;refine⟨_,rfl,q1,wl,f1,f2,ws,walls,y1,y2,rfl,zc,t3 _ _ g1,t3 _ _ g2,s3 _ _ hw,Walls.same s3 wls,w4,?_⟩;generalize upd H2 q1 (.lst [.ref f1,.ref f2])=H3 at s3 t3;cases e1:zhH walls y1 y2 with
    |none =>
     rw[e1] at k;exact k.same s3
    |some z1 =>
      rw[e1] at k;dsimp only at k ⊢;intro H4 t1 s4 ht1;refine⟨_,rfl,3,rfl,5,rfl,p,_,rfl,SqL.of (s4 _ _ (t3 _ _ hp)),fun q2 nq2=>?_⟩;rw[show zfU ([f0,f1,f2,f3,f4].map V.ref) (some 3) (some 5)=[.ref f3,.ref f4] from rfl];have s5:=(s3.trans s4).new (o:=.lst [.ref f3,.ref f4]) nq2;have t5:=(t3.trans s4).new (o:=.lst [.ref f3,.ref f4]) nq2;have u5:=(Same.refl H4).new (o:=.lst [.ref f3,.ref f4]) nq2;refine⟨_,rfl,q2,wl,f3,f4,ws,walls,y3,y4,rfl,zc,t5 _ _ g3,t5 _ _ g4,s5 _ _ hw,Walls.same s5 wls,w4,?_⟩;have ht1':=u5 _ _ ht1;generalize upd H4 q2 (.lst [.ref f3,.ref f4])=H5 at s5 t5 ht1';cases e3:zhH walls y3 y4 with
      |none =>
       rw[e3] at k;exact k.same s5
      |some z2 =>
        rw[e3] at k;dsimp only at k ⊢;intro H6 t2 s6 ht2;refine fun xc dc nx ndx dxx=>⟨xc,dc,_,_,rfl,zc,fun H7 e7 kp=>⟨rfl,?_⟩⟩
        have s7:Same H6 H7:=fun b o e=>by
         have z1:b≠xc:=zg e nx;have z2:b≠dc:=zg e ndx;rw[kp b z1,zd z1,zd z2];exact e
        have ht1:=s7 _ _ (s6 _ _ ht1');have ht2:=s7 _ _ ht2;have sA:=(s5.trans s6).trans s7;refine⟨_,rfl,xc,_,dc,_,_,rfl,e7,T.z0.c,T.zW,rfl,t1,_,_,_,rfl,rfl,.inl (.inl ht1),zE (j:=0) rfl,_,rfl,xc,_,dc,_,_,rfl,e7,T.z0.c,T.yg,rfl,t2,_,_,_,rfl,rfl,.inl (.inl ht2),zE (j:=0) rfl,_,_,rfl,rfl,_,rfl,?_⟩;by_cases hac:z1.1<z2.1
        ·rw[if_pos hac] at k;rw[decide_eq_false (show ¬((z2.1:Nat):Int)<=((z1.1:Nat):Int) by omega)];exact yw ⟨_,rfl,k H7 xc sA ⟨dc,t1,t2,e7,ht1,ht2⟩⟩
        ·rw[if_neg hac] at k;rw[decide_eq_true (show((z2.1:Nat):Int)<=((z1.1:Nat):Int) by omega)];exact yk (zA T (k.same sA))
theorem ziB (T:Txt K mg a):FnOk P w K mg base (CXo P w) true 1 a.zfj a.zfA ["corners"] (zo0 a.z4):=by
 refine zF T.za6.F zb4 (fun vs H Q E h=>?_) (fun cdv A outer s0 H vs Q E hr h=>?_)
 ·obtain⟨l,ks,cs,rfl,_⟩:=h;rfl
 ·obtain⟨l,ks,cs,rfl,hl,crs,c100,k⟩:=h;have zl:=szl;have lk:ks.length=cs.length:=Paired.length crs;refine⟨_,(zh (z6 (i:=1) zb4.nd rfl (lq rfl) (z7 ze))
   (zh (zcV takes_cx.po rfl (yC (pv 0)) (zY (i:=2) zb4.nd rfl (lq rfl)) (zi (yr (zct PySem.F.plainAttrs_list PySem.F.slot_list_extend PySem.F.type_list_extend zjf (pv 1) (za (z7 (za (zo (pv 2) rfl) (za (zo (pv 2) rfl) ze))) ze)))))
   (zi (zL (pv 1))))),?_⟩
  refine⟨Nat.zero_le _,fun p np=>?_⟩;have s1:Same H (upd H p (.lst [])):=(Same.refl _).new np;refine⟨_,rfl,l,rfl,⟨_,SqL.of (s1 _ _ hl)⟩,zby (K:=K) (a:=l) (xs:=ks.map V.ref) (fun i σ H'=>∃(v:Option V) (ts:List Addr),σ=[some (.ref l),some (.ref p),v]/\Same H H'/\H' p=some (.lst (ts.map V.ref))/\Tups H' ts (zau (cs.take i)))
   ⟨none,[],rfl,s1,zc,.nil⟩ (fun i σ H' _ ⟨_,_,_,s,_⟩=>SqL.of (s _ _ hl)) ?_ ?_⟩
  ·rintro i y σ H' hi ⟨v,ts,rfl,s2,hp,tt⟩;obtain⟨q,hq,rfl⟩:=zaD hi;obtain⟨c,hc,dx,t1,t2,e1,e2,e3⟩:=Paired.get crs hq;have il:=(List.getElem?_eq_some_iff.mp hc).1;have lt:=Paired.length tt;rw[zlq,List.length_take] at lt;have e1':=s2 _ _ e1;refine⟨_,rfl,.inl ⟨rfl,_,SqL.of hp⟩,_,rfl,q,_,dx,_,_,rfl,e1',T.z0.c,T.zW,rfl,_,rfl,q,_,dx,_,_,rfl,e1',T.z0.c,T.yg,rfl,(by show 2<=sizeLine;decide),fun l2 nl2=>?_⟩;have hp2:upd H' l2 (.lst [.ref t1,.ref t2]) p=some (.lst (ts.map V.ref)):=by rw[zd (zg hp nl2)];exact hp
   refine⟨p,l2,_,[.ref t1,.ref t2],rfl,rfl,hp2,zc,(by rw[List.length_map];show _+2<=_;omega),?_⟩;have s3:Same H' (upd H' l2 (.lst [.ref t1,.ref t2])):=(Same.refl _).new nl2;refine⟨_,ts++[t1,t2],rfl,(s2.trans s3).set np,?_,?_⟩
   ·rw[zc,List.map_append];rfl
   ·have ee:zau (cs.take (i+1))=zau (cs.take i)++[eI c.a c.ea,eI c.c c.ec]:=by
     unfold zau;rw[zV hc,List.flatMap_append];simp
    rw[ee];have tt2:=Tups.upd (ys:=ts.map V.ref++[.ref t1,.ref t2]) (Tups.same s3 tt) hp2;have u:∀{q:Addr} {ms:List Int},H q=some (.tup (ms.map V.int))->upd (upd H' l2 (.lst [.ref t1,.ref t2])) p (.lst (ts.map V.ref++[.ref t1,.ref t2])) q=some (.tup (ms.map V.int)):=fun{q ms} e=>by
     have e':=s3 _ _ (s2 _ _ e);rw[zd (zbN e' hp2 (by intro z;cases z))];exact e'
    have:ts++[t1,t2]=(ts++[t1])++[t2]:=by simp
    rw[this,show zau (cs.take i)++[eI c.a c.ea,eI c.c c.ec]=(zau (cs.take i)++[eI c.a c.ea])++[eI c.c c.ec] by simp];exact Paired.snoc (Paired.snoc tt2 (u e2)) (u e3)
  ·rintro σ H' ⟨v,ts,rfl,s2,hp,tt⟩;rw[List.length_map,lk,List.take_length] at tt;exact⟨_,rfl,k _ p ts s2 hp tt⟩
theorem znx (T:Txt K mg a):FnOk P w K mg base (CXo P w) true 1 a.zk9 a.zkI ["wall", "side"] (zpf a.yj a.zn):=by
 refine zF T.zbv.F zm5 (fun vs H Q E h=>?_) (fun cdv A outer s0 H vs Q E hr h=>?_)
 ·obtain⟨p,dx,op,v0,as,wl,e,rfl,_⟩:=h;rfl
 ·obtain⟨p,dx,op,v0,as,wl,e,rfl,W,k⟩:=h;refine⟨_,(zi (zL (zhh (zH zcs (pv 1) (zr (v:=.int 0) rfl T.zos ⟨_,rfl⟩) (zJ _)) (zo (pv 0) rfl) (zo (pv 0) rfl)))),?_⟩;refine⟨_,rfl,rfl,_,rfl,?_⟩;unfold Bd.Wall.endOf at k;by_cases h:e=0
  ·subst h;rw[if_pos rfl] at k;exact yk ⟨_,rfl,p,_,dx,_,_,rfl,W.at_,T.yW.c,T.zgH,rfl,k⟩
  ·rw[if_neg h] at k;rw[decide_eq_false (show ¬V.int ((e:Nat):Int)=V.int 0 from fun z=>h (by have:=V.int.inj z;omega))];exact yw ⟨_,rfl,p,_,dx,_,_,rfl,W.at_,T.yW.c,T.zfG,rfl,k⟩
theorem zjG (T:Txt K mg a):FnOk P w K mg base (CXo P w) true 1 a.zgx a.zgB ["wall", "side"] (zng a.yj a.zn):=by
 refine zF T.zbP.F zjY (fun vs H Q E h=>?_) (fun cdv A outer s0 H vs Q E hr h=>?_)
 ·obtain⟨p,dx,op,v0,as,wl,e,rfl,_⟩:=h;rfl
 ·obtain⟨p,dx,op,v0,as,wl,e,rfl,W,l1,k⟩:=h;refine⟨_,(zi (zL (zhh (zH zcs (pv 1) (zr (v:=.int 0) rfl T.zos ⟨_,rfl⟩) (zJ _)) zq (zaF zj8 (zo (pv 0) rfl) zq)))),?_⟩;refine⟨_,rfl,rfl,_,rfl,?_⟩;unfold zcX at k;by_cases h:e=0
  ·subst h;rw[if_pos rfl] at k;exact yk k
  ·rw[if_neg h] at k;rw[decide_eq_false (show ¬V.int ((e:Nat):Int)=V.int 0 from fun z=>h (by have:=V.int.inj z;omega))];refine yw ⟨_,rfl,p,_,dx,_,_,rfl,W.at_,T.yW.c,T.zb0,rfl,_,_,rfl,rfl,?_⟩;show Q (V.int (((wl.long:Nat):Int)-1)) H;rw[show((wl.long:Nat):Int)-1=((wl.long-1:Nat):Int) by omega];exact k
end
section
variable {P:Program}{w:World}{K:PySem.W.Frag}{mg:Str->Option Value}{base:Heap}{a:Ad}
theorem zeS (T:Txt K mg a):FnOk P w K mg base (CXo P w) true 3 a.zbF a.zbB ["end", "walls", "taken"] (zqT a.yj a.zn):=by
 have zh1:=zgM (P:=P) (w:=w) (base:=base) T;have zla:=zjG (P:=P) (w:=w) (base:=base) T;refine zF T.Zj.F yn (fun vs H Q E h=>?_) (fun cdv A outer s0 H vs Q E hr h=>?_)
 ·obtain⟨t,wl,tl,ws,ts,walls,cs,i,e,rfl,_⟩:=h;rfl
 ·obtain⟨t,wl,tl,ws,ts,walls,cs,i,e,rfl,ht,hw,wls,htl,tt,hi,he,l1,k⟩:=h;have zl:=szl;have hwi:walls[i]?=some walls[i]:=List.getElem?_eq_getElem hi;obtain⟨p,hp,dx,op,v0,as,W,_⟩:=Paired.getR wls hwi;have l1':=l1 walls[i] (List.getElem_mem hi);unfold zgf at k;rw[hwi] at k;dsimp only at k;have ro:zcT walls cs i e=(decide (5<=walls[i].long)||!(cs.any fun m=>m.uses i (1-e))):=by
   unfold zcT;rw[hwi];rfl
  rw[ro] at k;generalize walls[i]=v at W l1' k;refine⟨_,(zh (z6 (i:=3) yn.nd rfl (lq rfl) (zS zN (pv 1) (zS Z0 (pv 0) zq (fun _ _=>rfl)) (fun _ _=>rfl)))
   (zh (z6 (i:=4) yn.nd rfl (lq rfl) (zD zla hr.q rfl T.zbP.m T.zbP.F.kp T.zbP.b .nil takes_cx.passes (za (pv 3) (za (zS Z0 (pv 0) zq (fun _ _=>rfl)) ze))))
   (zh (yf (zap (zK (zlD rfl) rfl T.z_any zlm (za (zcU takes_cx rfl rfl (own:=[("course",5)]) rfl yn.nd (znv rfl T.z_range (za (zo (pv 3) rfl) ze)) (bkq ["end", "walls", "taken", "wall", "place", "course", "other_end"] (zk Z8) [("course",5)]) (fun s H C cl fp xe tk=>(zY (i:=5) yn.nd rfl (lq rfl))) (fun s H C cl fp xe tk=>Zh) (fun s H C cl fp xe tk=>(ZG (pv 3) T.yW.c T.zbp.M zh1 hr.q T.zbp.b .nil tk.passes (za (pv 4) (za (pv 5) ze))))) ze))) (zi (zL znS)) zO)
   (zh (z6 (i:=6) yn.nd rfl (lq rfl) (zj3 (za (zS Z0 (pv 0) zq (fun _ _=>rfl)) (za (zaF zj8 zq (zS Z0 (pv 0) zq (fun _ _=>rfl))) ze))))
   (zi (zL (zmk (Zi zpT (zo (pv 3) rfl) (zr (v:=.int 5) rfl T.zcq ⟨_,rfl⟩) (zJ _)) (zeQ (Zi (zik hr.units) (pv 6) (pv 2) rfl))))))))),?_⟩
  refine⟨_,rfl,_,rfl,t,_,_,_,rfl,rfl,.inl (.inl ht),zE (j:=0) rfl,wl,_,_,.ref p,rfl,rfl,SqL.of hw,zE (by rw[List.getElem?_map,hp];rfl),?_⟩;refine⟨_,rfl,_,rfl,t,_,_,_,rfl,rfl,.inl (.inl ht),zE (j:=1) rfl,p,dx,op,v0,as,v,e,rfl,W,l1',?_⟩;have h8:=W.h8;refine⟨_,rfl,p,_,dx,_,_,rfl,W.at_,T.yW.c,T.zay,rfl,_,rfl,by omega,by omega,fun D hD=>?_⟩;rw[show(((v.high:Nat):Int)).toNat=v.high by omega];refine znX (lo:=0) (n:=v.high) (fun j H'=>Same H H'/\H' D=some (.lst (((List.range j).map fun y=>v.isOpen (zcX v e) y).map V.bl))) ⟨(Same.refl _).new hD,zc⟩ ?_ ?_
  ·rintro j H' hj ⟨s1,hD1⟩;rw[show(0:Int)+((j:Nat):Int)=((j:Nat):Int) from Int.zero_add _];have W1:=W.same s1;refine⟨rfl,_,rfl,p,dx,_,rfl,W1.at_,rfl,_,rfl,_,rfl,p,dx,op,v0,as,v,zcX v e,j,rfl,W1,fun H2 s2=>⟨_,s2 _ _ hD1,(by rw[List.length_map,List.length_map,List.length_range];omega),(s1.trans s2).set hD,?_⟩⟩;rw[zc,zly,List.map_append,List.map_append];rfl
  ·rintro H1 ⟨s1,hD1⟩;refine⟨D,(List.range v.high).map fun y=>v.isOpen (zcX v e) y,rfl,SqL.of hD1,_,rfl,?_⟩;have so:(((List.range v.high).map fun y=>v.isOpen (zcX v e) y).any id)=!v.solidAt e:=by
    unfold Bd.Wall.solidAt zcX;rw[List.any_map,List.not_all_eq_any_not];simp
   rw[so];cases hs:v.solidAt e with
   |false =>
    rw[hs] at k;exact yk (k _ s1)
   |true =>
    rw[hs,Bool.true_and] at k;refine yw ?_;have ht1:=s1 _ _ ht;refine⟨_,rfl,t,_,_,_,rfl,rfl,.inl (.inl ht1),zE (j:=0) rfl,_,rfl,t,_,_,_,rfl,rfl,.inl (.inl ht1),zE (j:=1) rfl,_,_,rfl,rfl,(by show 2<=sizeLine;decide),fun o no=>?_⟩;have eo:HO.tup [V.int ((i:Nat):Int),(fun i j=>V.int (i-j)) 1 ((e:Nat):Int)]=.tup ((eI i (1-e)).map V.int):=by
     show HO.tup [V.int ((i:Nat):Int),V.int (1-((e:Nat):Int))]=HO.tup [V.int ((i:Nat):Int),V.int ((1-e:Nat):Int)];rw[show(1:Int)-((e:Nat):Int)=((1-e:Nat):Int) by omega]
    rw[eo];have s2:=s1.new (o:=.tup ((eI i (1-e)).map V.int)) no;have ho:upd H1 o (.tup ((eI i (1-e)).map V.int)) o=some (.tup ((eI i (1-e)).map V.int)):=zc;generalize upd H1 o (.tup ((eI i (1-e)).map V.int))=H2 at s2 ho;have W2:=W.same s2;dsimp only[zfL,zqo,zc4,zgR];refine zn1 (x:=decide (5<=v.long)) (y:=!(cs.any fun m=>m.uses i (1-e))) (fun R r=>⟨_,rfl,p,_,dx,_,_,rfl,W2.at_,T.yW.c,T.zb0,rfl,_,_,rfl,rfl,?_⟩) (fun _ R r=>⟨_,rfl,_,rfl,o,tl,eI i (1-e),ts,_,rfl,rfl,ho,SqL.of (s2 _ _ htl),Tups.same s2 tt,?_⟩) (k _ s2)
    ·show R (V.bl (decide ((5:Int)<=((v.long:Nat):Int)))) H2;rw[show decide ((5:Int)<=((v.long:Nat):Int))=decide (5<=v.long) from decide_eq_decide.mpr (by omega)];exact r
    ·rw[if_pos rfl,zeG];exact r
theorem zhu (T:Txt K mg a):FnOk P w K mg base (CXo P w) true 4 a.zeD a.zeC ["corner", "walls", "taken"] (zrz a.yj a.zn a.z4):=by
 have zkv:=znx (P:=P) (w:=w) (base:=base) T;have zfq:=zeS (P:=P) (w:=w) (base:=base) T;refine zF T.zaA.F Zt (fun vs H Q E h=>?_) (fun cdv A outer s0 H vs Q E hr h=>?_)
 ·obtain⟨p,wl,tl,ws,ts,walls,cs,c,rfl,_⟩:=h;rfl
 ·obtain⟨p,wl,tl,ws,ts,walls,cs,c,rfl,⟨dx,t1,t2,hp,h1,h2⟩,hw,wls,htl,tt,ha,hc,hea,hec,l1,k⟩:=h;have zl:=szl;have ga:walls[c.a]?=some walls[c.a]:=List.getElem?_eq_getElem ha;have gc:walls[c.c]?=some walls[c.c]:=List.getElem?_eq_getElem hc;obtain⟨p1,hp1,dx1,op1,v01,as1,W1,_⟩:=Paired.getR wls ga;obtain⟨p2,hp2,dx2,op2,v02,as2,W2,_⟩:=Paired.getR wls gc;unfold goB at k;rw[ga,gc] at k;dsimp only at k;generalize walls[c.a]=v1 at W1 k;generalize walls[c.c]=v2 at W2 k;refine⟨_,(zh (z6 (i:=3) Zt.nd rfl (lq rfl) (zS zN (pv 1) (zS Z0 (zo (pv 0) rfl) zq (fun _ _=>rfl)) (fun _ _=>rfl)))
   (zh (z6 (i:=4) Zt.nd rfl (lq rfl) (zS zN (pv 1) (zS Z0 (zo (pv 0) rfl) zq (fun _ _=>rfl)) (fun _ _=>rfl)))
   (zh (yf (zH zmq (zo (pv 3) rfl) (zo (pv 4) rfl) (zJ _)) (zi (zL znS)) zO)
   (zh (yf (zH (zhc hr.units) (zK zm9 rfl T.z_sorted zjg (za (z7 (za (zD zkv hr.q rfl T.zbv.m T.zbv.F.kp T.zbv.b .nil takes_cx.passes (za (pv 3) (za (zS Z0 (zo (pv 0) rfl) zq (fun _ _=>rfl)) ze))) (za (zD zkv hr.q rfl T.zbv.m T.zbv.F.kp T.zbv.b .nil takes_cx.passes (za (pv 4) (za (zS Z0 (zo (pv 0) rfl) zq (fun _ _=>rfl)) ze))) ze))) ze)) (z7 (za (zr (v:=.int 1) rfl T.zqO ⟨_,rfl⟩) (za (zr (v:=.int 2) rfl T.zre ⟨_,rfl⟩) ze))) (zJ _)) (zi (zL znS)) zO)
   (zi (zL (zK (zl2 rfl) rfl T.z_all zlR (za (zcU takes_cx rfl rfl (own:=[("end",5)]) rfl Zt.nd (yC (z7 (za (zo (pv 0) rfl) (za (zo (pv 0) rfl) ze)))) (bkq ["corner", "walls", "taken", "one", "other", "end"] (zk zbZ) [("end",5)]) (fun s H C cl fp xe tk=>(zY (i:=5) Zt.nd rfl (lq rfl))) (fun s H C cl fp xe tk=>Zh) (fun s H C cl fp xe tk=>(zD zfq hr.q rfl T.Zj.m T.Zj.F.kp T.Zj.b .nil tk.passes (za (pv 5) (za (pv 1) (za (pv 2) ze)))))) ze)))))))),?_⟩
  refine⟨_,rfl,_,rfl,p,_,dx,_,_,rfl,hp,T.z0.c,T.zW,rfl,t1,_,_,_,rfl,rfl,.inl (.inl h1),zE (j:=0) rfl,wl,_,_,.ref p1,rfl,rfl,SqL.of hw,zE (by rw[List.getElem?_map,hp1];rfl),?_⟩;refine⟨_,rfl,_,rfl,p,_,dx,_,_,rfl,hp,T.z0.c,T.yg,rfl,t2,_,_,_,rfl,rfl,.inl (.inl h2),zE (j:=0) rfl,wl,_,_,.ref p2,rfl,rfl,SqL.of hw,zE (by rw[List.getElem?_map,hp2];rfl),?_⟩;refine⟨_,rfl,p1,_,dx1,_,_,rfl,W1.at_,T.yW.c,T.zay,rfl,_,rfl,p2,_,dx2,_,_,rfl,W2.at_,T.yW.c,T.zay,rfl,rfl,_,rfl,?_⟩;by_cases hh:v1.high=v2.high
  rotate_left
  ·rw[show(!decide (V.int ((v1.high:Nat):Int)=V.int ((v2.high:Nat):Int)))=true by
    rw[decide_eq_false]
    ·rfl
    ·intro z;have:=V.int.inj z;omega]
   rw[show(v1.high == v2.high)=false from beq_eq_false_iff_ne.mpr hh,Bool.false_and] at k;exact yk (k _ (Same.refl _))
  rw[show(!decide (V.int ((v1.high:Nat):Int)=V.int ((v2.high:Nat):Int)))=false by rw[hh,decide_eq_true rfl];rfl];rw[show(v1.high == v2.high)=true from beq_iff_eq.mpr hh,Bool.true_and] at k;refine yw ?_;refine⟨_,rfl,_,rfl,p,_,dx,_,_,rfl,hp,T.z0.c,T.zW,rfl,t1,_,_,_,rfl,rfl,.inl (.inl h1),zE (j:=1) rfl,p1,dx1,op1,v01,as1,v1,c.ea,rfl,W1,
   _,rfl,_,rfl,p,_,dx,_,_,rfl,hp,T.z0.c,T.yg,rfl,t2,_,_,_,rfl,rfl,.inl (.inl h2),zE (j:=1) rfl,p2,dx2,op2,v02,as2,v2,c.ec,rfl,W2,(by show 2<=sizeLine;decide),fun q nq=>?_⟩
  have s1:Same H (upd H q (.lst [.int ((v1.endOf c.ea:Nat):Int),.int ((v2.endOf c.ec:Nat):Int)])):=(Same.refl _).new nq;refine⟨q,[((v1.endOf c.ea:Nat):Int),((v2.endOf c.ec:Nat):Int)],rfl,SqL.of zc,(by show 2<64;decide),fun ns q2 pm pw nq2=>?_⟩;generalize upd H q (.lst [.int ((v1.endOf c.ea:Nat):Int),.int ((v2.endOf c.ec:Nat):Int)])=H1 at s1 nq2;have s2:=s1.new (o:=.lst (ns.map V.int)) nq2;have e2:upd H1 q2 (.lst (ns.map V.int)) q2=some (.lst (ns.map V.int)):=zc;generalize upd H1 q2 (.lst (ns.map V.int))=H2 at s2 e2;refine⟨(by show 2<=sizeLine;decide),fun q3 nq3=>?_⟩;have s3:=s2.new (o:=.lst [.int 1,.int 2]) nq3;have e3:upd H2 q3 (.lst [.int 1,.int 2]) q2=some (.lst (ns.map V.int)):=by rw[zd (zg e2 nq3)];exact e2
  have e4:upd H2 q3 (.lst [.int 1,.int 2]) q3=some (.lst (([1,2]:List Int).map V.int)):=zc;generalize upd H2 q3 (.lst [.int 1,.int 2])=H3 at s3 e3 e4;refine⟨_,_,zow (SqL.of e3),zow (SqL.of e4),yy _,yy _,_,rfl,?_⟩;rw[zn7,zlL pm pw];have es:((decide (((v1.endOf c.ea:Nat):Int)=1)&&decide (((v2.endOf c.ec:Nat):Int)=2))||(decide (((v1.endOf c.ea:Nat):Int)=2)&&decide (((v2.endOf c.ec:Nat):Int)=1)))=((v1.endOf c.ea == 1&&v2.endOf c.ec == 2)||(v1.endOf c.ea == 2&&v2.endOf c.ec == 1)):=by
   rw[Bool.eq_iff_iff];simp only[Bool.or_eq_true,Bool.and_eq_true,decide_eq_true_eq,beq_iff_eq];omega
  rw[es];cases hq:((v1.endOf c.ea == 1&&v2.endOf c.ec == 2)||(v1.endOf c.ea == 2&&v2.endOf c.ec == 1)) with
  |false =>
   rw[hq,Bool.false_and] at k;exact yk (k _ s3)
  |true =>
   rw[hq,Bool.true_and] at k;refine yw ?_;have hp3:=s3 _ _ hp;refine⟨_,rfl,p,_,dx,_,_,rfl,hp3,T.z0.c,T.zW,rfl,_,rfl,p,_,dx,_,_,rfl,hp3,T.z0.c,T.yg,rfl,(by show 2<=sizeLine;decide),fun q4 nq4=>?_⟩;have s4:=s3.new (o:=.lst [.ref t1,.ref t2]) nq4;have e4:upd H3 q4 (.lst [.ref t1,.ref t2]) q4=some (.lst [.ref t1,.ref t2]):=zc;generalize upd H3 q4 (.lst [.ref t1,.ref t2])=H4 at s4 e4;refine⟨q4,rfl,⟨_,SqL.of e4⟩,fun D hD=>Z4 (K:=K) (a:=q4) (xs:=[.ref t1,.ref t2]) (fun i H'=>Same H4 H'/\H' D=some (.lst ((([zgf walls cs c.a c.ea,zgf walls cs c.c c.ec]:List Bool).take i).map V.bl))) ⟨(Same.refl _).new hD,zc⟩ (fun i H' _ ⟨s,_⟩=>SqL.of (s _ _ e4)) ?_ ?_⟩
   ·rintro i v H' hi ⟨s5,hD5⟩;have s45:=s4.trans s5
    match i,hi with
    |0,hi =>
     obtain rfl:=Option.some.inj hi;exact⟨rfl,_,rfl,_,rfl,_,rfl,t1,wl,tl,ws,ts,walls,cs,c.a,c.ea,rfl,s45 _ _ h1,s45 _ _ hw,Walls.same s45 wls,s45 _ _ htl,Tups.same s45 tt,ha,hea,l1,fun H6 s6=>⟨_,s6 _ _ hD5,(by show 0<sizeLine;decide),(s5.trans s6).set hD,zc⟩⟩
    |1,hi =>
     obtain rfl:=Option.some.inj hi;exact⟨rfl,_,rfl,_,rfl,_,rfl,t2,wl,tl,ws,ts,walls,cs,c.c,c.ec,rfl,s45 _ _ h2,s45 _ _ hw,Walls.same s45 wls,s45 _ _ htl,Tups.same s45 tt,hc,hec,l1,fun H6 s6=>⟨_,s6 _ _ hD5,(by show 1<sizeLine;decide),(s5.trans s6).set hD,zc⟩⟩
    |i+2,hi=>simp at hi
   ·rintro H5 ⟨s5,hD5⟩;refine⟨D,[zgf walls cs c.a c.ea,zgf walls cs c.c c.ec],rfl,SqL.of hD5,?_⟩;rw[show([zgf walls cs c.a c.ea,zgf walls cs c.c c.ec].all id)=(zgf walls cs c.a c.ea&&zgf walls cs c.c c.ec) by simp];exact k _ (s4.trans s5)
theorem zqv {walls:List Bd.Wall}{l:List Bd.Corner}{k:Bd.Corner}(le:Bd.longEnough walls l=true) (ha:k.a<k.c) (hc:k.c<walls.length) (hea:k.ea<=1) (hec:k.ec<=1):Bd.cornersFit walls l k=goB walls l k:=by
 have ga:walls[k.a]?=some (walls[k.a]'(by omega)):=List.getElem?_eq_getElem (by omega);have gc:walls[k.c]?=some walls[k.c]:=List.getElem?_eq_getElem hc;unfold Bd.cornersFit goB zgf Bd.fitTogether;rw[zm7 le ha hc hea hec,ga,gc];dsimp only;simp only[Bool.and_assoc];cases zcT walls l k.a k.ea <;> cases zcT walls l k.c k.ec <;> simp
theorem zjD (T:Txt K mg a):FnOk P w K mg base (CXo P w) true 5 a.zgj a.zgt ["line", "walls", "before"] (zlv K a.yj a.zn a.z4 a.zm):=by
 have zf:=zy (P:=P) (w:=w) (base:=base) (cm:=true) T;have ziD:=zhp (P:=P) (w:=w) (base:=base) T;have zjs:=ziB (P:=P) (w:=w) (base:=base) T;have zij:=zhu (P:=P) (w:=w) (base:=base) T;refine zF T.zbD.F zcZ (fun vs H Q E h=>?_) (fun cdv A outer s0 H vs Q E hr h=>?_)
 ·obtain⟨l,wl,bl,line,ws,ks,walls,cs,rfl,_⟩:=h;rfl
 ·obtain⟨l,wl,bl,line,ws,ks,walls,cs,rfl,hS,hl,hw,wls,w4,l1,hb,crs,c8,le,k⟩:=h;have zl:=szl;refine⟨_,(zh (z6 (i:=3) zcZ.nd rfl (lq rfl) (zD ziD hr.q rfl T.zaz.m T.zaz.F.kp T.zaz.b .nil takes_cx.passes (za (pv 0) (za (pv 1) ze))))
   (zh (yf (PW.pt (zj2 (zH (zjI hr.units0) (pv 2) (z7 ze) (zJ _)) (zg6 (zH (zqE hr.units0) (zo (pv 3) rfl) (zo (zS zN (pv 2) (zez zb2 zq) (fun _ _=>rfl)) rfl) (zJ _))))) (zi (zQ takes_cx rfl (zP (T.zj.k0 T.zb) zf hr.q rfl T.zj.m T.zb.b takes_cx (za (zr (v:=.int 9) rfl T.zdl ⟨_,rfl⟩) ze)))) zO)
   (zh (z6 (i:=4) zcZ.nd rfl (lq rfl) (zD zjs hr.q rfl T.za6.m T.za6.F.kp T.za6.b .nil takes_cx.passes (za (pv 2) ze)))
   (zh (yf (PW.pt (ziG (zH (zh9 hr.units) (zo (pv 3) rfl) (pv 4) rfl) (zfQ (zH (zh9 hr.units) (zo (pv 3) rfl) (pv 4) rfl)))) (zi (zQ takes_cx rfl (zP (T.zj.k0 T.zb) zf hr.q rfl T.zj.m T.zb.b takes_cx (za (zr (v:=.int 10) rfl T.zkp ⟨_,rfl⟩) ze)))) zO)
   (zh (yf (zeW (zap (zD zij hr.q rfl T.zaA.m T.zaA.F.kp T.zaA.b .nil takes_cx.passes (za (pv 3) (za (pv 1) (za (pv 4) ze)))))) (zi (zQ takes_cx rfl (zP (T.zj.k0 T.zb) zf hr.q rfl T.zj.m T.zb.b takes_cx (za (zr (v:=.int 11) rfl T.zkd ⟨_,rfl⟩) ze)))) zO)
   (zi (zL (pv 3)))))))),?_⟩
  refine⟨_,rfl,_,rfl,l,wl,line,ws,walls,rfl,hS,hl,hw,wls,w4,?_⟩;unfold za9 at k;cases hc:Bd.cornerIn walls line with
  |none =>
   rw[hc] at k;exact k
  |some c =>
   rw[hc] at k;obtain⟨g1,g2,g3,g4⟩:=cornerIn_good hc;dsimp only at k;rintro H1 p s1 ⟨dx,t1,t2,hp,h1,h2⟩;have hb1:=s1 _ _ hb;have crs1:=Crs.same s1 crs;have lk:ks.length=cs.length:=Paired.length crs;dsimp only[zc4,zgR,ziE];refine zjB (x:=!cs.isEmpty) (y:=cs.getLast?.any fun m=>!m.before c) (fun H6=>Same H1 H6) (fun R r=>?_) (fun hx H6 s6 R r=>?_) fun H2 s2=>?_
   ·refine⟨_,rfl,Nat.zero_le _,fun q nq=>⟨bl,q,ks.map V.ref,rfl,rfl,SqL.of (by rw[zd (zg hb1 nq)];exact hb1),SqL.of zc,_,rfl,?_⟩⟩;have ei:(!(ks.map V.ref).isEmpty)=!cs.isEmpty:=by
     cases ks with
     |nil=>cases cs with
      |nil=>rfl
      |cons _ _=>cases lk
     |cons _ _=>cases cs with
      |nil=>cases lk
      |cons _ _=>rfl
    rw[ei];exact r _ ((Same.refl _).new nq)
   ·have ne:cs≠[]:=fun z=>by rw[z] at hx;cases hx
    obtain⟨ki,kl,ci,cl,eks,ecs,hkl⟩:=Paired.last crs1 ne;obtain⟨dx2,u1,u2,e1,e2,e3⟩:=hkl;have hb6:=s6 _ _ hb1;rw[eks] at hb6;refine⟨_,rfl,p,_,dx,_,_,rfl,s6 _ _ hp,T.z0.c,T.zW,rfl,_,rfl,_,rfl,bl,_,_,.ref kl,rfl,rfl,SqL.of hb6,(by rw[List.map_append];exact zbu _ _),kl,_,dx2,_,_,rfl,s6 _ _ e1,T.z0.c,T.zW,rfl,t1,u1,eI c.a c.ea,eI cl.a cl.ea,rfl,rfl,.inl (.inl (s6 _ _ h1)),.inl (.inl (s6 _ _ e2)),_,rfl,?_⟩;rw[zp3];have el:(cs.getLast?.any fun m=>!m.before c)=!(decide (cl.a<c.a)||(cl.a == c.a&&decide (cl.ea<c.ea))):=by
     rw[ecs,List.getLast?_concat];rfl
    rw[<-el];exact r _ s6
   ·have ex:(!cs.isEmpty&&cs.getLast?.any fun m=>!m.before c)=cs.getLast?.any fun m=>!m.before c:=by
     cases cs with
     |nil=>rfl
     |cons _ _=>rfl
    rw[ex];have s12:=s1.trans s2;by_cases q9:(cs.getLast?.any fun m=>!m.before c)=true
    ·rw[if_pos q9] at k;rw[q9];exact yk (zA T (k.same s12))
    rw[if_neg q9] at k;rw[Bool.eq_false_iff.mpr q9];refine yw ⟨_,rfl,bl,ks,cs,rfl,s2 _ _ hb1,Crs.same s2 crs1,by omega,fun H3 tl ts s3 htl tt=>?_⟩;have s123:=s12.trans s3;have hp3:=s3 _ _ (s2 _ _ hp);have h13:=s3 _ _ (s2 _ _ h1);have h23:=s3 _ _ (s2 _ _ h2);dsimp only[zfL,zc4,zgR,ziE];refine zpV (x:=cs.any fun m=>m.uses c.a c.ea) (y:=cs.any fun m=>m.uses c.c c.ec)
     (fun R r=>⟨_,rfl,p,_,dx,_,_,rfl,hp3,T.z0.c,T.zW,rfl,_,rfl,t1,tl,eI c.a c.ea,ts,_,rfl,rfl,h13,SqL.of htl,tt,_,rfl,?_⟩)
     (fun _ R r=>⟨_,rfl,p,_,dx,_,_,rfl,hp3,T.z0.c,T.yg,rfl,_,rfl,t2,tl,eI c.c c.ec,ts,_,rfl,rfl,h23,SqL.of htl,tt,_,rfl,?_⟩) ?_
    ·rw[if_neg (by decide),zeG];exact r
    ·rw[if_neg (by decide),zeG];exact r
    have eo:((cs.any fun m=>m.uses c.a c.ea)||(cs.any fun m=>m.uses c.c c.ec))=cs.any fun m=>m.uses c.a c.ea||m.uses c.c c.ec:=by
     rw[Bool.eq_iff_iff,Bool.or_eq_true,List.any_eq_true,List.any_eq_true,List.any_eq_true];constructor
     ·rintro(⟨x,h1,h2⟩|⟨x,h1,h2⟩)
      ·exact⟨x,h1,by rw[h2,Bool.true_or]⟩
      ·exact⟨x,h1,by rw[h2,Bool.or_true]⟩
     ·rintro⟨x,h1,h2⟩;rcases Bool.or_eq_true_iff.mp h2 with h|h
      ·exact .inl ⟨x,h1,h⟩
      ·exact .inr ⟨x,h1,h⟩
    rw[eo];by_cases q10:(cs.any fun m=>m.uses c.a c.ea||m.uses c.c c.ec)=true
    ·rw[if_pos q10] at k;rw[q10];exact yk (zA T (k.same s123))
    rw[if_neg q10] at k;rw[Bool.eq_false_iff.mpr q10];refine yw ⟨_,rfl,_,rfl,_,rfl,p,wl,tl,ws,ts,walls,cs,c,rfl,⟨dx,t1,t2,hp3,h13,h23⟩,s123 _ _ hw,Walls.same s123 wls,htl,tt,by omega,g2,g3,g4,l1,fun H4 s4=>⟨_,rfl,?_⟩⟩;rw[<-zqv le g1 g2 g3 g4];have sA:=s123.trans s4;cases hf:Bd.cornersFit walls cs c with
    |false =>
     rw[if_pos hf] at k;exact yk (zA T (k.same sA))
    |true =>
     rw[if_neg (by rw[hf];decide)] at k;exact yw ⟨_,rfl,k H4 p sA ⟨dx,t1,t2,s4 _ _ hp3,s4 _ _ h13,s4 _ _ h23⟩⟩
end
theorem zpp {line:Bd.Bytes}{x:HV}(e:yG 0 line=.ok x):∃b,x=.nm b:=by
 rw[zge] at e;cases hf:zlM (Bd.ascii (zeK 0)) line with
 |none=>rw[hf] at e;cases e
 |some z =>
  rw[hf] at e;dsimp only at e;unfold Zl at e;rw[if_pos rfl] at e;cases hn:zcl z with
  |error k=>rw[hn] at e;cases e
  |ok b=>rw[hn] at e;exact⟨b,(Except.ok.inj e).symm⟩
theorem zmS {line:Bd.Bytes}{m:Nat}(e:yG 1 line=.ok (.num m)):1<=m:=by
 rw[zge] at e;cases hf:zlM (Bd.ascii (zeK 1)) line with
 |none=>rw[hf] at e;cases e
 |some z =>
  rw[hf] at e;dsimp only at e;unfold Zl at e;rw[if_neg (by decide),if_pos rfl] at e;unfold Zs at e;cases hn:Bd.readNumber z with
  |none=>rw[hn] at e;cases e
  |some n =>
   rw[hn] at e;dsimp only at e;by_cases q:n<1\/32<n
   ·rw[if_pos q] at e;cases e
   ·rw[if_neg q] at e;have e':HV.num n=HV.num m:=Except.ok.inj e;have:=HV.num.inj e';omega
theorem znq {h:List HV}(g:zmd h) (h6:h.length=6):1<=Wm.numAt h 1:=by
 have e:h[1]?=some h[1]:=List.getElem?_eq_getElem (by omega);obtain⟨line,hl⟩:=g 1 _ e;obtain⟨m,hm,_⟩:=zcp (by decide) hl;rw[hm] at hl e;have:=zmS hl;unfold Wm.numAt;rw[e];exact this
theorem WallAt.is2 {CW CO:Addr}{H:Hp}{p:Addr}{h:List HV}{os:List Bd.Opening}(W:WallAt CW CO H p h os) (g:zmd h) (o8:os.length<=1000):∃dx op v0 as,WallIs CW CO H p dx op v0 as (zck h os)/\∃q,v0=.ref q/\H q=some (.lst (iB (zck h os).name)):=by
 obtain⟨dx,op,v0,as,W1⟩:=W.is g o8;obtain⟨dx',op',u0,v1,v2,v3,v4,v5,as',e,hv,ho,hos⟩:=W;refine⟨dx,op,v0,as,W1,?_⟩;have e2:=W1.at_;rw[e] at e2;have e3:u0=v0:=by
  injection e2 with e2;injection e2 with _ _ e2;unfold wlF at e2;injection e2 with e2 _;injection e2
 subst e3;cases hv with
 |@cons _ x0 _ t a0 t0 =>
  obtain⟨line,hl⟩:=g 0 _ rfl;obtain⟨b,rfl⟩:=zpp hl;exact a0
theorem WRz.frame {Z Y:List Addr}{CR CO:Addr}{H H':Hp}{X:List Addr}{r:Addr}{s:WS}(W:WRz Z CR CO H X r s) (f:∀b o,H b=some o->b∉Y->H' b=some o) (hy:∀y∈Y,y∈Z/\∃xs,H y=some (.lst xs)) (dj:∀x∈X,x∉Y):WRz Z CR CO H' X r s:=by
 obtain⟨dx,pl,ph,po,hvs,as,las,rfl,U⟩:=W;have ins:∀{q C d:Addr} {fs:List (Str×V)},H q=some (.ins C d fs)->H' q=some (.ins C d fs):=fun{q C d fs} e=>f _ _ e fun m=>by
  obtain⟨xs,e2⟩:=(hy _ m).2;rw[e] at e2;cases e2
 refine⟨dx,pl,ph,po,hvs,as,las,rfl,ins U.ob,f _ _ U.hd (dj _ (by simp)),?_,U.off,f _ _ U.op (dj _ (by simp)),Paired.mapP U.os fun q o ⟨dq,e⟩=>⟨dq,ins e⟩,f _ _ U.ln (dj _ (by simp)),?_,U.lo,U.z1,U.z2,U.z3,U.n1,U.n2,U.n3,U.h6,U.o8,U.l14,U.kd⟩
 ·have pr:∀{l1:List V} {l2:List HV},Paired (HvIs H) l1 l2->(∀v∈l1,zmz v Z)->Paired (HvIs H') l1 l2:=fun r=>by
   induction r with
   |nil=>exact fun _=>.nil
   |@cons v z l1 l2 g t ih =>
    refine fun off=>.cons ?_ (ih fun v hv=>off v (by simp[hv]));cases z with
    |nm b =>
     obtain⟨q,e,g⟩:=g;exact⟨q,e,f _ _ g fun m=>off v (by simp) q e (hy _ m).1⟩
    |num n=>exact g
  exact pr U.hv U.off
 ·have pr:∀{A:List Addr} {B:List Bd.Bytes},Rows H A B->(∀x∈A,x∉Z)->Rows H' A B:=fun r=>by
   induction r with
   |nil=>exact fun _=>.nil
   |cons g t ih=>exact fun lo=>.cons (f _ _ g fun m=>lo _ (by simp) (hy _ m).1) (ih fun x hx=>lo x (by simp[hx]))
  exact pr U.rows U.lo
theorem WRz.keep {Z:List Addr}{CR CO:Addr}{H H':Hp}{X:List Addr}{r:Addr}{s:WS}(W:WRz Z CR CO H X r s) (k:Same H H'):WRz Z CR CO H' X r s:=by
 obtain⟨dx,pl,ph,po,hvs,as,las,rfl,U⟩:=W;exact⟨dx,pl,ph,po,hvs,as,las,rfl,U.keep k⟩
theorem WRz.grow {Z Z':List Addr}{CR CO:Addr}{H:Hp}{X:List Addr}{r:Addr}{s:WS}(W:WRz Z CR CO H X r s) (g:∀z∈Z',z∈Z\/H z=none) (i:∀z∈Z,z∈Z'):WRz Z' CR CO H X r s:=by
 obtain⟨dx,pl,ph,po,hvs,as,las,rfl,U⟩:=W;refine⟨dx,pl,ph,po,hvs,as,las,rfl,U.ob,U.hd,U.hv,?_,U.op,U.os,U.ln,U.rows,?_,i _ U.z1,i _ U.z2,i _ U.z3,U.n1,U.n2,U.n3,U.h6,U.o8,U.l14,U.kd⟩
 ·have pr:∀{l1:List V} {l2:List HV},Paired (HvIs H) l1 l2->∀v∈l1,∀p,v=.ref p->H p≠none:=fun r=>by
   induction r with
   |nil=>intro v hv;cases hv
   |@cons v z l1 l2 f t ih =>
    intro u hu p e;rcases List.mem_cons.mp hu with rfl|m
    ·cases z with
     |nm b =>
      obtain⟨q,e2,f⟩:=f;rw[e] at e2;obtain rfl:=V.ref.inj e2;rw[f];exact fun z=>nomatch z
     |num n =>
      have f':u=.int ((n:Nat):Int):=f;rw[e] at f';cases f'
    ·exact ih u m p e
  intro v hv p e m;rcases g p m with q|q
  ·exact U.off v hv p e q
  ·exact pr U.hv v hv p e q
 ·have pr:∀{A:List Addr} {B:List Bd.Bytes},Rows H A B->∀x∈A,H x≠none:=fun r=>by
   induction r with
   |nil=>intro x hx;cases hx
   |cons g t ih =>
    intro x hx;rcases List.mem_cons.mp hx with rfl|m
    ·rw[g];exact fun z=>nomatch z
    ·exact ih x m
  intro x hx m;rcases g x m with q|q
  ·exact U.lo x hx q
  ·exact pr U.rows x hx q
theorem WRz.first {Z Z':List Addr}{CR CO:Addr}{H:Hp}{X:List Addr}{r:Addr}(W:WRz Z CR CO H X r ([],[],[])) (i:∀z∈X,z∈Z'):WRz Z' CR CO H X r ([],[],[]):=by
 obtain⟨dx,pl,ph,po,hvs,as,las,rfl,U⟩:=W;have e1:hvs=[]:=by
  have q:=U.hv;cases q;rfl
 have e2:las=[]:=by
  have q:=U.rows;cases q;rfl
 subst e1 e2;exact⟨dx,pl,ph,po,[],as,[],rfl,U.ob,U.hd,U.hv,by simp,U.op,U.os,U.ln,U.rows,by simp,i _ (by simp),i _ (by simp),i _ (by simp),U.n1,U.n2,U.n3,U.h6,U.o8,U.l14,U.kd⟩
theorem WRz.nodup {Z:List Addr}{CR CO:Addr}{H:Hp}{X:List Addr}{r:Addr}{s:WS}(W:WRz Z CR CO H X r s):X.Nodup:=by
 obtain⟨dx,pl,ph,po,hvs,as,las,rfl,U⟩:=W;simp[U.n1,U.n2,U.n3]
def srF (pr pc:Addr):List (Str×V):=[("readers",.ref pr),("corners",.ref pc)]
structure SRd (CS CR CO CC:Addr) (H:Hp) (X:List Addr) (r dx pr pc:Addr) (rxs:List (Addr×List Addr)) (ks:List Addr) (s:SS):Prop where
 eX:X=pr::pc::rxs.flatMap (·.2)
 ob:H r=some (.ins CS dx (srF pr pc))
 rd:H pr=some (.lst (rxs.map fun x=>V.ref x.1))
 cr:H pc=some (.lst (ks.map V.ref))
 ws:Paired (fun x w=>WRz X CR CO H x.2 x.1 w) rxs s.1
 cs:Crs CC H ks s.2
 nd:X.Nodup
 gd:SGood s
 gh:∀w∈s.1,zmd w.1
def SR (CS CR CO CC:Addr) (H:Hp) (X:List Addr) (r:Addr) (s:SS):Prop:=∃(dx pr pc:Addr) (rxs:List (Addr×List Addr)) (ks:List Addr),SRd CS CR CO CC H X r dx pr pc rxs ks s
theorem SRd.keep {CS CR CO CC:Addr}{H H':Hp}{X:List Addr}{r dx pr pc:Addr}{rxs:List (Addr×List Addr)}{ks:List Addr}{s:SS}(U:SRd CS CR CO CC H X r dx pr pc rxs ks s) (k:Same H H'):SRd CS CR CO CC H' X r dx pr pc rxs ks s :=
 ⟨U.eX,k _ _ U.ob,k _ _ U.rd,k _ _ U.cr,Paired.mapP U.ws fun _ _ h=>h.keep k,Crs.same k U.cs,U.nd,U.gd,U.gh⟩
theorem SR.keep {CS CR CO CC:Addr}(H H':Hp) (X:List Addr) (r:Addr) (s:SS) (h:SR CS CR CO CC H X r s) (k:Same H H'):SR CS CR CO CC H' X r s:=by
 obtain⟨dx,pr,pc,rxs,ks,U⟩:=h;exact⟨dx,pr,pc,rxs,ks,U.keep k⟩
theorem SR.obj {CS CR CO CC:Addr}(H:Hp) (X:List Addr) (r:Addr) (s:SS) (h:SR CS CR CO CC H X r s):∃dx fs,H r=some (.ins CS dx fs)/\fs.lookup ("take" : Str)=none/\fs.lookup ("take_rest" : Str)=none:=by
 obtain⟨dx,pr,pc,rxs,ks,U⟩:=h;exact⟨dx,_,U.ob,rfl,rfl⟩
theorem SRd.lists {CS CR CO CC:Addr}{H:Hp}{X:List Addr}{r dx pr pc:Addr}{rxs:List (Addr×List Addr)}{ks:List Addr}{s:SS}(U:SRd CS CR CO CC H X r dx pr pc rxs ks s):∀x∈X,∃xs,H x=some (.lst xs):=by
 intro x hx;rw[U.eX] at hx;rcases List.mem_cons.mp hx with rfl|hx
 ·exact⟨_,U.rd⟩
 rcases List.mem_cons.mp hx with rfl|hx
 ·exact⟨_,U.cr⟩
 obtain⟨rx,m,hx⟩:=List.mem_flatMap.mp hx;have pr:∀{A:List (Addr×List Addr)} {B:List WS},Paired (fun x w=>WRz X CR CO H x.2 x.1 w) A B->rx∈A->∃xs,H x=some (.lst xs):=fun r=>by
  induction r with
  |nil=>intro m;cases m
  |cons g t ih =>
   intro m;rcases List.mem_cons.mp m with rfl|m
   ·exact g.has x hx
   ·exact ih m
 exact pr U.ws m
theorem SRd.has {CS CR CO CC:Addr}{H:Hp}{X:List Addr}{r dx pr pc:Addr}{rxs:List (Addr×List Addr)}{ks:List Addr}{s:SS}(U:SRd CS CR CO CC H X r dx pr pc rxs ks s):∀x∈X,H x≠none:=fun x hx e=>by
 obtain⟨xs,e2⟩:=U.lists x hx;rw[e2] at e;cases e
theorem SR.has {CS CR CO CC:Addr}{H:Hp}{X:List Addr}{r:Addr}{s:SS}(h:SR CS CR CO CC H X r s):∀x∈X,H x≠none:=by
 obtain⟨dx,pr,pc,rxs,ks,U⟩:=h;exact U.has
theorem Crs.frame {CC:Addr}{H H':Hp}{Y:List Addr}(f:∀b o,H b=some o->b∉Y->H' b=some o) (hy:∀y∈Y,∃xs,H y=some (.lst xs)) {ks:List Addr}{cs:List Bd.Corner}(r:Crs CC H ks cs):Crs CC H' ks cs:=by
 have st:∀{q:Addr} {o:HO},H q=some o->(∀xs,o≠.lst xs)->H' q=some o:=fun{q o} e n=>f _ _ e fun m=>by
  obtain⟨xs,e2⟩:=hy _ m;rw[e] at e2;exact n xs (Option.some.inj e2)
 exact Paired.mapP r fun q k ⟨dx,t1,t2,e1,e2,e3⟩=>⟨dx,t1,t2,st e1 (fun _ z=>nomatch z),st e2 (fun _ z=>nomatch z),st e3 (fun _ z=>nomatch z)⟩
def zpM (CS CR CO CC:Addr):Sp:=fun vs H Q _=>∃(r dx:Addr),vs=[.ref r]/\H r=some (.ins CS dx []) /\
 ∀(H':Hp) (X:List Addr),(∀b o,H b=some o->b≠r->H' b=some o)->SR CS CR CO CC H' X r ([],[])->(∀x∈X,H x=none)->Q .non H'
def zni (CS CR CO CC:Addr):Sp:=fun vs H Q _=>∃(r:Addr) (X:List Addr) (s:SS),vs=[.ref r]/\SR CS CR CO CC H X r s/\∀H':Hp,Same H H'->Q (.bl (yA s)) H'
def zkU (CS CR CO CC CW:Addr):Sp:=fun vs H Q _=>∃(r:Addr) (X:List Addr) (s:SS),vs=[.ref r]/\SR CS CR CO CC H X r s/\(∀x∈s.1,x.1.length=6) /\
 ∀(H':Hp) (p:Addr) (ws:List Addr),Same H H'->H p=none->H' p=some (.lst (ws.map V.ref))->Walls CW CO H' ws (s.1.map zZ)->Q (.ref p) H'
def zpH (CS CR CO CC CL:Addr):Sp:=fun vs H Q E=>∃(r l:Addr) (X:List Addr) (s:SS) (line:Bd.Bytes),vs=[.ref r,.ref l]/\SR CS CR CO CC H X r s/\H l=some (.lst (iB line))/\l∉X/\line.length<=10000/\s.2=[]/\(∀x∈s.1,x.1.length=6) /\
 match yS s line with
 |.error k=>Fails CL E H k
 |.ok s'=>∀(H':Hp) (X':List Addr),(∀b o,H b=some o->b∉X->H' b=some o)->SR CS CR CO CC H' X' r s'->(∀x∈X',x∈X\/H x=none)->Q .non H'
theorem zeP {α β:Type}{F:α->β->Prop}{as:List α}{bs:List β}(p:Paired F as bs) (h:bs≠[]):∃ai x bi y,as=ai++[x]/\bs=bi++[y]/\Paired F ai bi/\F x y:=by
 induction p with
 |nil=>exact absurd rfl h
 |@cons a b as bs f t ih =>
  cases bs with
  |nil =>
   cases t;exact⟨[],a,[],b,rfl,rfl,.nil,f⟩
  |cons b' bs' =>
   obtain⟨ai,x,bi,y,e1,e2,p1,p2⟩:=ih (by simp);exact⟨a::ai,x,b::bi,y,by rw[e1];rfl,by rw[e2];rfl,.cons f p1,p2⟩
section
variable {P:Program}{w:World}{K:PySem.W.Frag}{mg:Str->Option Value}{base:Heap}{a:Ad}
theorem zcN (T:Txt K mg a):FnOk P w K mg base (CXo P w) true 1 a.zam a.zag ["self"] (zpM a.zM a.zw a.zn a.z4):=by
 refine zF T.Zc.F zcI (fun vs H Q E h=>?_) (fun cdv A outer s0 H vs Q E hr h=>?_)
 ·obtain⟨r,dx,rfl,_⟩:=h;rfl
 ·obtain⟨r,dx,rfl,hp,k⟩:=h;refine⟨_,(zh (yM (pv 0) (z7 ze) rfl)
   (zi (yM (pv 0) (z7 ze) rfl))),?_⟩
  refine⟨Nat.zero_le _,fun pr npr=>⟨_,rfl,r,_,dx,_,rfl,by rw[zd (zg hp npr)];exact hp,T.zu.c,T.zC,(by show 0<1000;decide),?_⟩⟩;have rr:r≠pr:=zg hp npr;refine⟨Nat.zero_le _,fun pc npc=>⟨_,rfl,r,_,dx,_,rfl,by rw[zd (zg zc npc)];exact zc,T.zu.c,T.z8,(by show 1<1000;decide),?_⟩⟩;have rc:r≠pc:=zg zc npc;rw[zd (Ne.symm rc)] at npc;have rpc:pr≠pc:=fun e=>by
   rw[<-e,zc] at npc;cases npc
  rw[zd (Ne.symm rpc)] at npc;refine k _ [pr,pc] (fun b o e br=>?_) ⟨dx,pr,pc,[],[],rfl,?_,?_,?_,.nil,.nil,by simp[rpc],SGood.start,fun w h=>by simp at h⟩ ?_
  ·rw[zd br,zd (zg e npc),zd br,zd (zg e npr)];exact e
  ·rw[zc];rfl
  ·rw[zd (Ne.symm rr),zd rpc,zd (Ne.symm rr),zc];rfl
  ·rw[zd (Ne.symm rc),zc];rfl
  ·intro x hx;simp only[List.mem_cons,List.mem_nil_iff,or_false] at hx;rcases hx with rfl|rfl
   ·exact npr
   ·exact npc
theorem zfm {CS CR CO CC:Addr}{H:Hp}{X:List Addr}{r dx pr pc:Addr}{rxs:List (Addr×List Addr)}{ks:List Addr}{s:SS}(U:SRd CS CR CO CC H X r dx pr pc rxs ks s):(rxs.map fun x=>V.ref x.1).isEmpty=s.1.isEmpty/\(ks.map V.ref).isEmpty=s.2.isEmpty:=by
 have l1:=Paired.length U.ws;have l2:=Paired.length U.cs;constructor
 ·cases rxs with
  |nil=>cases h:s.1 with
   |nil=>rfl
   |cons _ _=>rw[h] at l1;cases l1
  |cons _ _=>cases h:s.1 with
   |nil=>rw[h] at l1;cases l1
   |cons _ _=>rfl
 ·cases ks with
  |nil=>cases h:s.2 with
   |nil=>rfl
   |cons _ _=>rw[h] at l2;cases l2
  |cons _ _=>cases h:s.2 with
   |nil=>rw[h] at l2;cases l2
   |cons _ _=>rfl
theorem zan (T:Txt K mg a):FnOk P w K mg base (CXo P w) true 2 a.zaH a.zaL ["self"] (zni a.zM a.zw a.zn a.z4):=by
 have Zd:=Z5 (P:=P) (w:=w) (base:=base) T;refine zF T.yt.F zds (fun vs H Q E h=>?_) (fun cdv A outer s0 H vs Q E hr h=>?_)
 ·obtain⟨r,X,s,rfl,_⟩:=h;rfl
 ·obtain⟨r,X,s,rfl,⟨dx,pr,pc,rxs,ks,U⟩,k⟩:=h;refine⟨_,(zi (zL (zmk (Zi (zoV hr.units0) (zo (pv 0) rfl) (z7 ze) (zJ _)) (zeQ (zlE (zco (zS zN (zo (pv 0) rfl) (zez zb2 zq) (fun _ _=>rfl)) T.zx.c T.yi.M Zd hr.q T.yi.b .nil takes_cx.passes)))))),?_⟩;refine⟨_,rfl,r,_,dx,_,_,rfl,U.ob,T.zu.c,T.zC,rfl,Nat.zero_le _,fun q nq=>?_⟩;have s1:Same H (upd H q (.lst [])):=(Same.refl _).new nq;have hq:upd H q (.lst []) q=some (.lst []):=zc;generalize upd H q (.lst [])=H1 at s1 hq;have U1:=U.keep s1;refine⟨pr,q,_,rfl,rfl,SqL.of U1.rd,SqL.of hq,_,rfl,?_⟩;rw[(zfm U).1];by_cases h0:s.1=[]
  ·rw[h0];have e:yA s=true:=by
    unfold yA;rw[h0];rfl
   rw[e] at k;exact yk (k _ s1)
  ·obtain⟨ri,x,wi,y,e1,e2,p1,p2⟩:=zeP U1.ws h0;rw[show s.1.isEmpty=false by rw[List.isEmpty_eq_false_iff];exact h0];refine yw ?_;obtain⟨dx2,fs,ob,lk⟩:∃dx2 fs,H1 x.1=some (.ins a.zw dx2 fs)/\fs.lookup ("has_head" : Str)=none:=by
    obtain⟨dx2,pl,ph,po,hvs,as,las,_,V1⟩:=id p2;exact⟨dx2,_,V1.ob,rfl⟩
   have hrd:=U1.rd;rw[e1,List.map_append] at hrd;refine⟨_,rfl,r,_,dx,_,_,rfl,U1.ob,T.zu.c,T.zC,rfl,_,rfl,pr,_,_,.ref x.1,rfl,rfl,SqL.of hrd,zbu _ _,x.1,dx2,fs,rfl,ob,lk,x.1,X,_,y,rfl,p2,?_⟩;have e:yA s=!decide (y.1.length=6):=by
    have z:s=(wi++[y],s.2):=by rw[<-e2]
    rw[z,zaQ];have m:=U.gd.most y (by rw[e2];simp);rw[Bool.eq_iff_iff,decide_eq_true_eq,Bool.not_eq_true',decide_eq_false_iff_not];omega
   rw[e] at k;exact⟨_,rfl,k _ s1⟩
theorem ZC (T:Txt K mg a):FnOk P w K mg base (CXo P w) true 3 a.ZU a.ZS ["self"] (zkU a.zM a.zw a.zn a.z4 a.yj):=by
 have zgX:=zga (P:=P) (w:=w) (base:=base) T;refine zF T.z9.F yK (fun vs H Q E h=>?_) (fun cdv A outer s0 H vs Q E hr h=>?_)
 ·obtain⟨r,X,s,rfl,_⟩:=h;rfl
 ·obtain⟨r,X,s,rfl,⟨dx,pr,pc,rxs,ks,U⟩,full,k⟩:=h;have zl:=szl;have w4:=U.gd.w4;have lr:=Paired.length U.ws;refine⟨_,(zi (zL (zcU takes_cx rfl rfl (own:=[("reader",1)]) rfl yK.nd (yC (zo (pv 0) rfl)) (bkq ["self", "reader"] (zk yO) [("reader",1)]) (fun s H C cl fp xe tk=>(zY (i:=1) yK.nd rfl (lq rfl))) (fun s H C cl fp xe tk=>Zh) (fun s H C cl fp xe tk=>(zg4 (T.yW.k0 T.zaW) zgX hr.q rfl T.yW.m T.zaW.b .nil tk.passes (za (zd9 (K:=K) rfl (pv 1) rfl) (za (zd9 (K:=K) rfl (pv 1) rfl) ze))))))),?_⟩;refine⟨_,rfl,r,_,dx,_,_,rfl,U.ob,T.zu.c,T.zC,rfl,pr,rfl,⟨_,SqL.of U.rd⟩,fun D hD=>?_⟩;refine Z4 (K:=K) (a:=pr) (xs:=rxs.map fun x=>V.ref x.1) (fun i H'=>∃(ws:List Addr) (Hm:Hp),Same H Hm/\Same Hm H'/\Hm D=none/\H' D=some (.lst (ws.map V.ref))/\Walls a.yj a.zn Hm ws ((s.1.take i).map zZ))
   ⟨[],H,Same.refl _,(Same.refl _).new hD,hD,zc,.nil⟩ (fun i H' _ ⟨_,_,s1,s2,_⟩=>SqL.of (s2 _ _ (s1 _ _ U.rd))) ?_ ?_
  ·rintro i v H' hi ⟨ws,Hm,sm,s1,nDm,hD1,wls⟩;rw[List.getElem?_map] at hi;obtain⟨x,hx,rfl⟩:∃x,rxs[i]?=some x/\v=.ref x.1:=by
    cases e:rxs[i]? with
    |none=>rw[e] at hi;cases hi
    |some x=>rw[e] at hi;exact⟨x,rfl,(Option.some.inj hi).symm⟩
   obtain⟨y,hy,Wz⟩:=Paired.get U.ws hx;have il:=(List.getElem?_eq_some_iff.mp hy).1;obtain⟨dx2,pl,ph,po,hvs,as,las,_,V0⟩:=Wz;have V1:=V0.keep (sm.trans s1);have ym:=List.mem_of_getElem? hy;have y6:=full y ym;have lenh:hvs.length=y.1.length:=Paired.length V1.hv;obtain⟨v0,v1,v2,v3,v4,v5,rfl⟩:∃v0 v1 v2 v3 v4 v5,hvs=[v0,v1,v2,v3,v4,v5]:=by
    match hvs,lenh.trans y6 with
    |[v0,v1,v2,v3,v4,v5],_=>exact⟨_,_,_,_,_,_,rfl⟩
   have lw:=Paired.length wls;rw[List.length_map,List.length_take] at lw;refine⟨rfl,_,rfl,x.1,_,dx2,_,_,rfl,V1.ob,T.zx.c,T.zT,rfl,_,rfl,x.1,_,dx2,_,_,rfl,V1.ob,T.zx.c,T.yH,rfl,fun xw dw nx ndw dxx=>⟨xw,dw,ph,po,v0,v1,v2,v3,v4,v5,rfl,zc,?_,fun H7 e7 kp=>⟨rfl,?_⟩⟩⟩
   ·rw[zd (zg V1.hd nx),zd (zg V1.hd ndw)];exact V1.hd
   have s7:Same H' H7:=fun b o e=>by
    have q1:b≠xw:=zg e nx;have q2:b≠dw:=zg e ndw;rw[kp b q1,zd q1,zd q2];exact e
   have hD7:=s7 _ _ hD1;have xD:xw≠D:=fun e=>by
    rw[e,hD1] at nx;cases nx
   obtain⟨Hn,hn1,hn2⟩:∃Hn:Hp,Hn D=none/\∀b,b≠D->Hn b=H7 b:=⟨fun b=>if b=D then none else H7 b,if_pos rfl,fun b h=>if_neg h⟩
   have mn:Same Hm Hn:=fun b o e=>by
    rw[hn2 b (zg e nDm)];exact s7 _ _ (s1 _ _ e)
   have n7:∀xs,Same Hn (upd H7 D (.lst xs)):=fun xs b o e=>by
    have q:=zg e hn1;rw[zd q,<-hn2 b q];exact e
   have V7:=V0.keep (sm.trans mn);have WA:WallAt a.yj a.zn Hn xw y.1 y.2.1:=⟨dw,po,v0,v1,v2,v3,v4,v5,as,by rw[hn2 xw xD];exact e7,V7.hv,V7.op,V7.os⟩
   have o8:y.2.1.length<=8:=V0.o8;have W2:=WA.is2 (U.gh y ym) (by omega);refine⟨_,hD7,(by rw[List.length_map];omega),ws++[xw],Hn,sm.trans mn,n7 _,hn1,?_,?_⟩
   ·rw[zc,List.map_append];rfl
   ·rw[zV hy,List.map_append];exact Paired.snoc (Walls.same mn wls) W2
  ·rintro H1 ⟨ws,Hm,sm,s1,nDm,hD1,wls⟩;rw[List.length_map,lr,List.take_length] at wls;exact k _ D ws (sm.trans s1) hD hD1 (Walls.same s1 wls)
end
section
variable {P:Program}{w:World}{K:PySem.W.Frag}{mg:Str->Option Value}{base:Heap}{a:Ad}
theorem WRz.ob {Z:List Addr}{CR CO:Addr}{H:Hp}{X:List Addr}{r:Addr}{s:WS}(W:WRz Z CR CO H X r s) (f:Str) (hf:f ≠ "lines") (hf2:f ≠ "head") (hf3:f ≠ "openings"):∃dx fs,H r=some (.ins CR dx fs)/\fs.lookup f=none:=by
 obtain⟨dx,pl,ph,po,hvs,as,las,_,U⟩:=W;refine⟨dx,_,U.ob,?_⟩;unfold wrF;rw[List.lookup_cons,List.lookup_cons,List.lookup_cons];rw[show(f == ("lines" : Str))=false from beq_eq_false_iff_ne.mpr hf,show(f == ("head" : Str))=false from beq_eq_false_iff_ne.mpr hf2,show(f == ("openings" : Str))=false from beq_eq_false_iff_ne.mpr hf3];rfl
theorem WRd.name {Z:List Addr}{CR CO:Addr}{H:Hp}{r dx pl ph po:Addr}{hvs:List V}{as las:List Addr}{s:WS}(U:WRd Z CR CO H r dx pl ph po hvs as las s) (h:s.1≠[]):∃q,hvs[0]?=some (.ref q)/\H q=some (.lst (iB (nameAt s.1))):=by
 have l0:0<s.1.length:=List.length_pos_iff.mpr h;have e:s.1[0]?=some s.1[0]:=List.getElem?_eq_getElem l0;have z:=U.kd 0 _ e;rw[if_pos rfl] at z;obtain⟨b,z⟩:=z;rw[z] at e;obtain⟨v,hv,q,rfl,hq⟩:=Paired.getR U.hv e;refine⟨q,hv,?_⟩;have en:nameAt s.1=b:=by
  unfold Wm.nameAt;rw[e]
 rw[en];exact hq
theorem zb1 (T:Txt K mg a):FnOk P w K mg base (CXo P w) true 7 a.ZT a.ZV ["self", "line"] (zpH a.zM a.zw a.zn a.z4 a.zm):=by
 have zf:=zy (P:=P) (w:=w) (base:=base) (cm:=true) T;have zdm:=zcG (P:=P) (w:=w) (base:=base) T;have Zg:=za2 (P:=P) (w:=w) (base:=base) T;refine zF T.ya.F yp (fun vs H Q E h=>?_) (fun cdv A outer s0 H vs Q E hr h=>?_)
 ·obtain⟨r,l,X,s,line,rfl,_⟩:=h;rfl
 ·obtain⟨r,l,X,s,line,rfl,⟨dx,pr,pc,rxs,ks,U⟩,hL,nl,hl,hcs,full,k⟩:=h;have zl:=szl;have w4:=U.gd.w4;have lr:=Paired.length U.ws;refine⟨_,(zh (z6 (i:=2) yp.nd rfl (lq rfl) (zko (T.zx.k0 T.Zb) zdm hr.q rfl T.zx.m T.Zb.b .nil takes_cx.passes))
   (zh (yr (ZG (pv 2) T.zx.c T.yd.M Zg hr.q T.yd.b .nil takes_cx.passes (za (pv 1) ze)))
   (zh (yf (zH (zlO hr.units) (zS zN (zo (pv 2) rfl) zq (fun _ _=>rfl)) (zcU takes_cx rfl rfl (own:=[("before",3)]) rfl yp.nd (yC (zo (pv 0) rfl)) (bkq ["self", "line", "reader", "before"] (zk yP) [("before",3)]) (fun s H C cl fp xe tk=>(zY (i:=3) yp.nd rfl (lq rfl))) (fun s H C cl fp xe tk=>Zh) (fun s H C cl fp xe tk=>(zS (zhY (K:=K) rfl) (zd9 (K:=K) rfl (pv 3) rfl) zq (fun _ _=>rfl)))) rfl) (zi (zQ takes_cx rfl (zP (T.zj.k0 T.zb) zf hr.q rfl T.zj.m T.zb.b takes_cx (za (zr (v:=.int 6) rfl T.zjK ⟨_,rfl⟩) ze)))) zO)
   (zh (yf (zH zcs (zK zG rfl T.z_len yN (za (zo (pv 0) rfl) ze)) (zr (v:=.int 4) rfl T.zjy ⟨_,rfl⟩) (zJ _)) (zi (zQ takes_cx rfl (zP (T.zj.k0 T.zb) zf hr.q rfl T.zj.m T.zb.b takes_cx (za (zr (v:=.int 7) rfl T.zjx ⟨_,rfl⟩) ze)))) zO)
   (zi (yr (zct PySem.F.plainAttrs_list PySem.F.slot_list_append PySem.F.type_list_append ZN (zo (pv 0) rfl) (za (pv 2) ze)))))))),?_⟩
  refine fun rn dn nrn ndn nnn=>⟨rn,dn,rfl,zc,fun H1 Xn f1 W0 fr=>⟨rfl,?_⟩⟩
  have s1:Same H H1:=fun b o e=>f1 b o (by rw[zd (zg e nrn),zd (zg e ndn)];exact e) (zg e nrn);have nX:∀x∈Xn,H x=none:=fun x hx=>by
   have e:=fr x hx;by_cases q:x=rn
   ·rw[q];exact nrn
   ·rw[zd q] at e;by_cases q2:x=dn
    ·rw[q2];exact ndn
    ·rw[zd q2] at e;exact e
  have W1:WRz (X++Xn) a.zw a.zn H1 Xn rn ([],[],[]):=WRz.first W0 fun z hz=>List.mem_append_right _ hz;have hZ:∀z∈X++Xn,H1 z≠none:=fun z hz=>by
   rcases List.mem_append.mp hz with m|m
   ·obtain⟨xs,e⟩:=U.lists z m;rw[s1 _ _ e];exact fun z=>nomatch z
   ·exact W0.has z m
  have nlZ:l∉X++Xn:=fun m=>(List.mem_append.mp m).elim nl fun m=>by
   rw[nX l m] at hL;cases hL
  obtain⟨d1,fs1,ob1,lk1⟩:=W1.ob "take" (by decide) (by decide) (by decide);refine⟨_,rfl,rn,d1,fs1,rfl,ob1,lk1,_,rfl,rn,l,X++Xn,Xn,_,line,rfl,W1,hZ,s1 _ _ hL,nlZ,hl,?_⟩;unfold yS at k;cases hs:yJ ([],[],[]) line with
  |error e =>
   rw[hs] at k;exact k.same s1
  |ok rs =>
   rw[hs] at k;dsimp only at k ⊢;intro H2 f2 W2;have s2:Same H H2:=fun b o e=>f2 b o (s1 b o e) fun m=>by
    rw[nX b m] at e;cases e
   have U2:=U.keep s2;have rs1:rs.1≠[]:=fun z=>by
    rcases zeT hs with⟨_,q⟩|⟨q,_⟩
    ·rw[z] at q;cases q
    ·exact q (by decide)
   obtain⟨d2,pl,ph,po,hvs,as,las,eXn,V2⟩:=id W2;obtain⟨q0,g0,hq0⟩:=V2.name rs1;refine⟨_,rfl,rn,_,d2,_,_,rfl,V2.ob,T.zx.c,T.zT,rfl,ph,_,_,_,rfl,rfl,SqL.of V2.hd,zE (j:=0) g0,_,rfl,r,_,dx,_,_,rfl,U2.ob,T.zu.c,T.zC,rfl,pr,rfl,⟨_,SqL.of U2.rd⟩,fun D hD=>?_⟩;refine Z4 (K:=K) (a:=pr) (xs:=rxs.map fun x=>V.ref x.1) (fun i H'=>∃qs:List Addr,Same H2 H'/\H' D=some (.lst (qs.map V.ref))/\Lsts H2 qs ((s.1.take i).map fun y=>jB (nameAt y.1)))
    ⟨[],(Same.refl _).new hD,zc,.nil⟩ (fun i H' _ ⟨_,s3,_⟩=>SqL.of (s3 _ _ U2.rd)) ?_ ?_
   ·rintro i v H' hi ⟨qs,s3,hD3,ls⟩;rw[List.getElem?_map] at hi;obtain⟨x,hx,rfl⟩:∃x,rxs[i]?=some x/\v=.ref x.1:=by
     cases e:rxs[i]? with
     |none=>rw[e] at hi;cases hi
     |some x=>rw[e] at hi;exact⟨x,rfl,(Option.some.inj hi).symm⟩
    obtain⟨y,hy,Wz⟩:=Paired.get U2.ws hx;obtain⟨d3,pl3,ph3,po3,hvs3,as3,las3,_,V3⟩:=Wz;have V4:=V3.keep s3;have y6:=full y (List.mem_of_getElem? hy);obtain⟨q3,g3,hq3⟩:=V3.name (fun z=>by rw[z] at y6;cases y6);have il:=(List.getElem?_eq_some_iff.mp hy).1;have lq:=Paired.length ls;rw[List.length_map,List.length_take] at lq;refine⟨rfl,_,rfl,x.1,_,d3,_,_,rfl,V4.ob,T.zx.c,T.zT,rfl,ph3,_,_,_,rfl,rfl,SqL.of V4.hd,zE (j:=0) g3,_,hD3,(by rw[List.length_map];omega),qs++[q3],s3.set hD,?_,?_⟩
    ·rw[zc,List.map_append];rfl
    ·rw[zV hy,List.map_append];refine Paired.snoc ls ?_;rw[hq3,zhK]
   ·rintro H3 ⟨qs,s3,hD3,ls⟩;rw[List.length_map,lr,List.take_length] at ls;refine⟨q0,D,jB (nameAt rs.1),qs,_,rfl,rfl,(by rw[<-zhK];exact SqL.of (s3 _ _ hq0)),SqL.of hD3,Lsts.same s3 ls,_,rfl,?_⟩;rw[if_neg (by decide)];have ec:(s.1.map fun y=>jB (nameAt y.1)).contains (jB (nameAt rs.1))=s.1.any fun q=>nameAt q.1 == nameAt rs.1:=by
     rw[Bool.eq_iff_iff,List.contains_iff_mem,List.mem_map,List.any_eq_true];refine exists_congr fun y=>and_congr_right fun _=>?_;rw[beq_iff_eq];exact jB_inj
    rw[ec];have s23:=s2.trans s3;by_cases q6:(s.1.any fun q=>nameAt q.1 == nameAt rs.1)=true
    ·rw[if_pos q6] at k;rw[q6];exact yk (zA T (k.same s23))
    rw[if_neg q6] at k;rw[Bool.eq_false_iff.mpr q6];refine yw ?_;have U3:=U.keep s23;refine⟨_,rfl,r,_,dx,_,_,rfl,U3.ob,T.zu.c,T.zC,rfl,pr,_,rfl,.inl (SqL.of U3.rd),rfl,_,rfl,?_⟩;rw[List.length_map,lr];by_cases q7:4<=s.1.length
    ·rw[if_pos q7] at k;rw[decide_eq_true (show V.int ((s.1.length:Nat):Int)=V.int 4 by rw[show s.1.length=4 by omega];rfl)];exact yk (zA T (k.same s23))
    rw[if_neg q7] at k;rw[decide_eq_false (show ¬V.int ((s.1.length:Nat):Int)=V.int 4 from fun z=>q7 (by have:=V.int.inj z;omega))];refine yw ⟨_,rfl,r,_,dx,_,_,rfl,U3.ob,T.zu.c,T.zC,rfl,.inl ⟨rfl,_,SqL.of U3.rd⟩,_,rfl,pr,_,_,rfl,rfl,U3.rd,(by rw[List.length_map];omega),?_⟩;have hb:yS s line=.ok (s.1++[rs],s.2):=by
     unfold yS;rw[hs];dsimp only;rw[if_neg q6,if_neg q7]
    obtain⟨gd',_⟩:=zlS U.gd hcs full hb;have pX:pr∈X:=by rw[U.eX];simp
    have cX:pc∈X:=by rw[U.eX];simp
    have pc_ne:pr≠pc:=by
     have nd:=U.nd;rw[U.eX] at nd;simp at nd;exact nd.1.1
    have pnx:∀x∈rxs,pr∉x.2:=fun x hx m=>by
     have nd:=U.nd;rw[U.eX] at nd;exact(List.nodup_cons.mp nd).1 (List.mem_cons_of_mem _ (List.mem_flatMap.mpr ⟨x,hx,m⟩))
    have fZ:∀b o,H3 b=some o->b∉[pr]->upd H3 pr (.lst ((rxs.map fun x=>V.ref x.1)++[.ref rn])) b=some o:=fun b o e n=>by
     rw[zd (fun z=>n (by simp[z]))];exact e
    have ins:∀{q C d:Addr} {fs:List (Str×V)},H3 q=some (.ins C d fs)->upd H3 pr (.lst ((rxs.map fun x=>V.ref x.1)++[.ref rn])) q=some (.ins C d fs):=fun{q C d fs} e=>by
     rw[zd (zbN e U3.rd (by intro z;cases z))];exact e
    have hy:∀y∈[pr],y∈X++Xn/\∃xs,H3 y=some (.lst xs):=fun y hy=>by
     rw[List.mem_singleton.mp hy];exact⟨List.mem_append_left _ pX,_,U3.rd⟩
    have eX':X++Xn=pr::pc::(rxs++[(rn,Xn)]).flatMap (·.2):=by
     rw[U.eX,List.flatMap_append];simp
    refine k _ (X++Xn) (fun b o e n=>?_) ⟨dx,pr,pc,rxs++[(rn,Xn)],ks,eX',ins U3.ob,?_,?_,?_,?_,?_,gd',?_⟩ (fun x hx=>?_)
    ·rw[zd (fun z=>n (by rw[z];exact pX))];exact s23 b o e
    ·rw[zc,List.map_append];rfl
    ·rw[zd (Ne.symm pc_ne)];exact U3.cr
    ·have old:∀{A:List (Addr×List Addr)} {B:List WS},Paired (fun x w=>WRz X a.zw a.zn H x.2 x.1 w) A B->(∀x∈A,pr∉x.2)->Paired (fun x w=>WRz (X++Xn) a.zw a.zn (upd H3 pr (.lst ((rxs.map fun x=>V.ref x.1)++[.ref rn]))) x.2 x.1 w) A B:=fun rr=>by
      induction rr with
      |nil=>exact fun _=>.nil
      |@cons x y A B g t ih =>
       refine fun np=>.cons ?_ (ih fun x hx=>np x (by simp[hx]));have g1:WRz (X++Xn) a.zw a.zn H x.2 x.1 y:=g.grow (fun z hz=>(List.mem_append.mp hz).imp_right (nX z)) fun z hz=>List.mem_append_left _ hz;exact(g1.keep s23).frame fZ hy fun z hz m=>np x (by simp) (by rw[<-List.mem_singleton.mp m];exact hz)
     refine Paired.snoc (old U.ws pnx) ?_;exact(W2.keep s3).frame fZ hy fun z hz m=>by
      have e:=nX z hz;rw[List.mem_singleton.mp m] at e;obtain⟨xs,e2⟩:=U.lists pr pX;rw[e2] at e;cases e
    ·exact Crs.frame fZ (fun y hy'=>(hy y hy').2) U3.cs
    ·refine List.nodup_append.mpr ⟨U.nd,W2.nodup,fun x hx y hy e=>?_⟩;rw[<-e] at hy;exact U.has x hx (nX x hy)
    ·intro w' hw';rcases List.mem_append.mp hw' with m|m
     ·exact U.gh w' m
     ·rw[List.mem_singleton.mp m];have tk:Zy [] [] line=.ok (rs.1,rs.2.1):=by
       unfold yJ at hs;cases ht:Zy ([]:List HV) ([]:List Bd.Opening) line with
       |error e=>rw[show Zy ([],[],[]).1 ([],[],[]).2.1 line=Zy ([]:List HV) ([]:List Bd.Opening) line from rfl,ht] at hs;cases hs
       |ok z =>
        rw[show Zy ([],[],[]).1 ([],[],[]).2.1 line=Zy ([]:List HV) ([]:List Bd.Opening) line from rfl,ht] at hs;obtain rfl:=Except.ok.inj hs;rfl
      exact ziQ (fun n x h=>by simp at h) tk
    ·rcases List.mem_append.mp hx with m|m
     ·exact .inl m
     ·exact .inr (nX x m)
end
theorem zf9 (w:String) (wd line:Bd.Bytes) (h:Bd.ascii w++[32]=wd):decide (line.take wd.length=wd)=Bd.begins w line:=by
 unfold Bd.begins Bd.behind;have l:(Bd.ascii w).length+1=wd.length:=by
  rw[<-h];simp
 rw[l,h];by_cases q:line.take wd.length=wd
 ·rw[decide_eq_true q,if_pos q];rfl
 ·rw[decide_eq_false q,if_neg q];rfl
theorem SRd.last {CS CR CO CC:Addr}{H H':Hp}{X:List Addr}{r dx pr pc:Addr}{rxs ri:List (Addr×List Addr)}{x:Addr×List Addr}{ks:List Addr}{s:SS}{wi:List WS}{y y':WS}{line:Bd.Bytes}(U:SRd CS CR CO CC H X r dx pr pc rxs ks s) (e1:rxs=ri++[x]) (e2:s.1=wi++[y])
  (f:∀b o,H b=some o->b∉x.2->H' b=some o) (W:WRz X CR CO H' x.2 x.1 y') (g:SGood (wi++[y'],s.2)) (hw:yJ y line=.ok y') {R:Prop} (k:SR CS CR CO CC H' X r (wi++[y'],s.2)->R):R:=by
 have nd:=U.nd;rw[U.eX,e1,List.flatMap_append] at nd;have ex:[x].flatMap (·.2)=x.2:=by simp
 rw[ex] at nd;have n1:=List.nodup_cons.mp nd;have n2:=List.nodup_cons.mp n1.2;have n3:=List.nodup_append.mp n2.2;have sub:∀z∈x.2,z∈X:=fun z hz=>by
  rw[U.eX,e1,List.flatMap_append];simp[hz]
 have hy:∀z∈x.2,z∈X/\∃xs,H z=some (.lst xs):=fun z hz=>⟨sub z hz,U.lists z (sub z hz)⟩
 have ws:=U.ws;rw[e1,e2] at ws;have li:ri.length=wi.length:=by
  have:=Paired.length ws;simpa using this
 have split:∀{A:List (Addr×List Addr)} {B:List WS},A.length=B.length->Paired (fun x w=>WRz X CR CO H x.2 x.1 w) (A++[x]) (B++[y])->(∀z∈A,∀b∈z.2,b∉x.2)->Paired (fun x w=>WRz X CR CO H' x.2 x.1 w) A B:=fun{A}=>by
  induction A with
  |nil =>
   intro B hl p _;cases B with
   |nil=>exact .nil
   |cons _ _=>cases hl
  |cons z A ih =>
   intro B hl p dj;cases B with
   |nil=>cases hl
   |cons u B =>
    cases p with
    |cons g t=>exact .cons (g.frame f hy (dj z (by simp))) (ih (by simpa using hl) t fun z' hz'=>dj z' (by simp[hz']))
 have ins:∀{q C d:Addr} {fs:List (Str×V)},H q=some (.ins C d fs)->H' q=some (.ins C d fs):=fun{q C d fs} e=>f _ _ e fun m=>by
  obtain⟨xs,e2⟩:=(hy _ m).2;rw[e] at e2;cases e2
 refine k ⟨dx,pr,pc,rxs,ks,U.eX,ins U.ob,f _ _ U.rd fun m=>n1.1 (List.mem_cons_of_mem _ (List.mem_append_right _ m)),f _ _ U.cr fun m=>n2.1 (List.mem_append_right _ m),?_,Crs.frame f (fun z hz=>(hy z hz).2) U.cs,U.nd,g,?_⟩
 ·rw[e1];exact Paired.snoc (split li ws fun z hz b hb m=>n3.2.2 b (List.mem_flatMap.mpr ⟨z,hz,hb⟩) b m rfl) W
 ·intro w hw';have gh:=U.gh;rw[e2] at gh;rcases List.mem_append.mp hw' with m|m
  ·exact gh w (by simp[m])
  ·rw[List.mem_singleton.mp m];unfold yJ at hw;cases ht:Zy y.1 y.2.1 line with
   |error e=>rw[ht] at hw;cases hw
   |ok z =>
    rw[ht] at hw;obtain rfl:=Except.ok.inj hw;exact ziQ (h':=z.1) (o':=z.2) (gh y (by simp)) ht
theorem SRd.corner {CS CR CO CC:Addr}{H:Hp}{X:List Addr}{r dx pr pc:Addr}{rxs:List (Addr×List Addr)}{ks:List Addr}{s:SS}{p:Addr}{c:Bd.Corner}(U:SRd CS CR CO CC H X r dx pr pc rxs ks s) (hc:CrAt CC H p c) (g:SGood (s.1,s.2++[c])) :
  SR CS CR CO CC (upd H pc (.lst (ks.map V.ref++[.ref p]))) X r (s.1,s.2++[c]):=by
 have nd:=U.nd;rw[U.eX] at nd;have n1:=List.nodup_cons.mp nd;have n2:=List.nodup_cons.mp n1.2;have pp:pr≠pc:=fun e=>n1.1 (by rw[e];simp);have f:∀b o,H b=some o->b∉[pc]->upd H pc (.lst (ks.map V.ref++[.ref p])) b=some o:=fun b o e n=>by
  rw[zd (fun z=>n (by simp[z]))];exact e
 have hy:∀z∈[pc],z∈X/\∃xs,H z=some (.lst xs):=fun z hz=>by
  rw[List.mem_singleton.mp hz,U.eX];exact⟨by simp,_,U.cr⟩
 refine⟨dx,pr,pc,rxs,ks++[p],U.eX,?_,?_,?_,?_,?_,U.nd,g,U.gh⟩
 ·rw[zd (zbN U.ob U.cr (by intro z;cases z))];exact U.ob
 ·rw[zd pp];exact U.rd
 ·rw[zc,List.map_append];rfl
 ·have all:∀{A:List (Addr×List Addr)} {B:List WS},Paired (fun x w=>WRz X CR CO H x.2 x.1 w) A B->(∀x∈A,pc∉x.2)->Paired (fun x w=>WRz X CR CO (upd H pc (.lst (ks.map V.ref++[.ref p]))) x.2 x.1 w) A B:=fun rr=>by
   induction rr with
   |nil=>exact fun _=>.nil
   |@cons x0 y0 A0 B0 g t ih=>exact fun np=>.cons (g.frame f hy fun z hz m=>np x0 (by simp) (by rw[<-List.mem_singleton.mp m];exact hz)) (ih fun x hx=>np x (by simp[hx]))
  exact all U.ws fun x hx m=>n2.1 (List.mem_flatMap.mpr ⟨x,hx,m⟩)
 ·exact Paired.snoc (Crs.frame f (fun z hz=>(hy z hz).2) U.cs) (by
   have q:Crs CC H [p] [c]:=.cons hc .nil;have q2:=Crs.frame f (fun z hz=>(hy z hz).2) q;cases q2 with
   |cons h _=>exact h)
section
variable {P:Program}{w:World}{K:PySem.W.Frag}{mg:Str->Option Value}{base:Heap}{a:Ad}
theorem ze2 (T:Txt K mg a):FnOk P w K mg base (CXo P w) true 8 a.zbU a.zbL ["self", "line"] (zjr (SR a.zM a.zw a.zn a.z4) yo a.zm):=by
 have ZQ:=zb1 (P:=P) (w:=w) (base:=base) T;have Zr:=zan (P:=P) (w:=w) (base:=base) T;have yQ:=ZC (P:=P) (w:=w) (base:=base) T;have Zg:=za2 (P:=P) (w:=w) (base:=base) T;have zaB:=zdM (P:=P) (w:=w) (base:=base) T;have zkn:=zjD (P:=P) (w:=w) (base:=base) T;refine zF T.Z2.F zeY (fun vs H Q E h=>?_) (fun cdv A outer s0 H vs Q E hr h=>?_)
 ·obtain⟨r,l,X,s,line,rfl,_⟩:=h;rfl
 ·obtain⟨r,l,X,s,line,rfl,⟨dx,pr,pc,rxs,ks,U⟩,hL,nl,hl,k⟩:=h;have zl:=szl;have w4:=U.gd.w4;refine⟨_,(zi (yf (zH (zoV hr.units0) (zo (pv 0) rfl) (z7 ze) (zJ _)) (zi (yr (ZG (pv 0) T.zu.c T.ya.M ZQ hr.q T.ya.b .nil takes_cx.passes (za (pv 1) ze)))) (zi (yf (zap (zco (pv 0) T.zu.c T.yt.M Zr hr.q T.yt.b .nil takes_cx.passes)) (zi (yr (ZG (zS zN (zo (pv 0) rfl) (zez zb2 zq) (fun _ _=>rfl)) T.zx.c T.yd.M Zg hr.q T.yd.b .nil takes_cx.passes (za (pv 1) ze)))) (zi (yf (PW.pt (ziG (zH (zjI hr.units0) (zo (pv 0) rfl) (z7 ze) (zJ _)) (zfQ (zap (zD zaB hr.q rfl T.yc.m T.yc.F.kp T.yc.b .nil takes_cx.passes (za (pv 1) (za (zr (v:=.str "corner ") rfl T.zdH ⟨_,rfl⟩) ze))))))) (zi (yr (zct PySem.F.plainAttrs_list PySem.F.slot_list_append PySem.F.type_list_append ZN (zo (pv 0) rfl) (za (zD zkn hr.q rfl T.zbD.m T.zbD.F.kp T.zbD.b .nil takes_cx.passes (za (pv 1) (za (zco (pv 0) T.zu.c T.z9.M yQ hr.q T.z9.b .nil takes_cx.passes) (za (zo (pv 0) rfl) ze)))) ze)))) (zi (yf (zap (zD zaB hr.q rfl T.yc.m T.yc.F.kp T.yc.b .nil takes_cx.passes (za (pv 1) (za (zr (v:=.str "wall ") rfl T.zj0 ⟨_,rfl⟩) ze)))) (zi (yr (ZG (pv 0) T.zu.c T.ya.M ZQ hr.q T.ya.b .nil takes_cx.passes (za (pv 1) ze)))) (zi (yr (ZG (zS zN (zo (pv 0) rfl) (zez zb2 zq) (fun _ _=>rfl)) T.zx.c T.yd.M Zg hr.q T.yd.b .nil takes_cx.passes (za (pv 1) ze)))))))))))),?_⟩;unfold yo at k;refine⟨_,rfl,r,_,dx,_,_,rfl,U.ob,T.zu.c,T.zC,rfl,Nat.zero_le _,fun q nq=>?_⟩;have s1:Same H (upd H q (.lst [])):=(Same.refl _).new nq;have hq:upd H q (.lst []) q=some (.lst []):=zc;generalize upd H q (.lst [])=H1 at s1 hq;have U1:=U.keep s1;refine⟨pr,q,_,rfl,rfl,SqL.of U1.rd,SqL.of hq,_,rfl,?_⟩;rw[(zfm U).1];by_cases h0:s.1=[]
  ·rw[if_pos h0] at k;have hcs:s.2=[]:=U.gd.hd (by unfold yA;rw[h0];rfl);have full:∀x∈s.1,x.1.length=6:=fun x hx=>by
    rw[h0] at hx;cases hx
   rw[show s.1.isEmpty=true by rw[h0];rfl];refine yk ?_;refine⟨_,rfl,r,dx,_,rfl,U1.ob,rfl,_,rfl,r,l,X,s,line,rfl,⟨dx,pr,pc,rxs,ks,U1⟩,s1 _ _ hL,nl,hl,hcs,full,?_⟩;cases hb:yS s line with
   |error e =>
    rw[hb] at k;exact k.same s1
   |ok s' =>
    rw[hb] at k;exact fun H' X' f SR' fr=>k H' X' (fun b o e n=>f b o (s1 b o e) n) SR' fun z hz=>(fr z hz).imp_right s1.free
  ·rw[if_neg h0] at k;rw[show s.1.isEmpty=false by rw[List.isEmpty_eq_false_iff];exact h0];refine yw ⟨_,rfl,r,dx,_,rfl,U1.ob,rfl,r,X,s,rfl,⟨dx,pr,pc,rxs,ks,U1⟩,fun H2 s12=>⟨_,rfl,?_⟩⟩;have s2:=s1.trans s12;cases hh:yA s with
   |true =>
    rw[if_pos hh] at k;have hcs:s.2=[]:=U.gd.hd hh;refine yk ?_;obtain⟨ri,x,wi,y,e1,e2,p1,p2⟩:=zeP U.ws h0;have U2:=U.keep s2;have p2':=p2.keep s2;obtain⟨d1,fs1,ob1,lk1⟩:=p2'.ob "take" (by decide) (by decide) (by decide);have hrd:=U2.rd;rw[e1,List.map_append] at hrd;refine⟨_,rfl,r,_,dx,_,_,rfl,U2.ob,T.zu.c,T.zC,rfl,_,rfl,pr,_,_,.ref x.1,rfl,rfl,SqL.of hrd,zbu _ _,x.1,d1,fs1,rfl,ob1,lk1,_,rfl,x.1,l,X,x.2,y,line,rfl,p2',U2.has,s2 _ _ hL,nl,hl,?_⟩;have hst:ZB s line=match yJ y line with
      |.error k=>.error k
      |.ok y'=>.ok (wi++[y'],s.2):=by
     have z:s=(wi++[y],s.2):=by rw[<-e2]
     rw[z];exact yZ _ _ _ _
    rw[hst] at k;cases hw:yJ y line with
    |error e =>
     rw[hw] at k;exact k.same s2
    |ok y' =>
     rw[hw] at k hst;dsimp only at k ⊢;intro H3 f3 W3;obtain⟨gd',_⟩:=zeq U.gd h0 hcs hst;exact SRd.last U2 e1 e2 f3 W3 gd' hw fun SR'=>k H3 X (fun b o e n=>f3 b o (s2 b o e) fun m=>n (by rw[U.eX,e1,List.flatMap_append];simp[m])) SR' fun z hz=>.inl hz
   |false =>
    rw[if_neg (by rw[hh];decide)] at k;have full:=zmM U.gd hh;refine yw ?_;have U2:=U.keep s2;dsimp only[zfL,zc4,zgR,ziE];refine zjn (x:=!s.2.isEmpty) (y:=Bd.begins "corner" line) (fun H6=>Same H2 H6) (fun R r'=>?_) (fun hx H6 s6 R r'=>?_) fun H3 s3=>?_
    ·refine⟨_,rfl,r,_,dx,_,_,rfl,U2.ob,T.zu.c,T.z8,rfl,Nat.zero_le _,fun q2 nq2=>⟨pc,q2,ks.map V.ref,rfl,rfl,SqL.of (by rw[zd (zg U2.cr nq2)];exact U2.cr),SqL.of zc,_,rfl,?_⟩⟩;rw[(zfm U).2];exact r' _ ((Same.refl _).new nq2)
    ·refine⟨_,rfl,l, "corner ",line,Bd.ascii "corner ",rfl,(by decide),(by decide),SqL.of (s6 _ _ (s2 _ _ hL)),fun H7 s7=>⟨_,rfl,?_⟩⟩;rw[zf9 "corner" (Bd.ascii "corner ") line (by decide)];exact r' _ (s6.trans s7)
    ·have s23:=s2.trans s3;have U3:=U.keep s23;by_cases q8:s.2≠[]\/Bd.begins "corner" line=true
     ·rw[if_pos q8] at k;rw[show(!s.2.isEmpty||Bd.begins "corner" line)=true by
       rw[Bool.or_eq_true,Bool.not_eq_true',List.isEmpty_eq_false_iff];exact q8]
      refine yk ⟨_,rfl,r,_,dx,_,_,rfl,U3.ob,T.zu.c,T.z8,rfl,.inl ⟨rfl,_,SqL.of U3.cr⟩,_,rfl,_,rfl,r,dx,_,rfl,U3.ob,rfl,r,X,s,rfl,⟨dx,pr,pc,rxs,ks,U3⟩,full,fun H4 pw ws s4 npw hpw wls=>?_⟩;have s24:=s23.trans s4;have U4:=U.keep s24;have c8:s.2.length<=8:=by
       cases hl2:s.2.getLast? with
       |none =>
        rw[List.getLast?_eq_none_iff] at hl2;rw[hl2];decide
       |some m =>
        have:=U.gd.c8 m hl2;omega
      refine⟨_,rfl,r,_,dx,_,_,rfl,U4.ob,T.zu.c,T.z8,rfl,l,pw,pc,line,ws,ks,s.1.map zZ,s.2,rfl,SqL.of (s24 _ _ hL),hl,hpw,wls,(by rw[List.length_map];exact w4),?_,U4.cr,U4.cs,c8,U.gd.le,?_⟩
      ·intro v hv;obtain⟨y,hy,rfl⟩:=List.mem_map.mp hv;exact znq (U.gh y hy) (full y hy)
      ·cases hc:za9 (s.1.map zZ) s.2 line with
       |error e =>
        rw[hc] at k;exact k.same s24
       |ok c =>
        rw[hc] at k;intro H5 p s5 hcp;obtain⟨gd',lt8⟩:=zk3 U.gd hh hc;have s25:=s24.trans s5;have U5:=U.keep s25;have lk:=Paired.length U.cs;refine⟨pc,_,_,rfl,rfl,U5.cr,(by rw[List.length_map];omega),?_⟩;have pX:pc∈X:=by rw[U.eX];simp
        exact k _ X (fun b o e n=>by rw[zd (fun z=>n (by rw[z];exact pX))];exact s25 b o e) (U5.corner hcp gd') fun z hz=>.inl hz
     ·rw[if_neg q8] at k;rw[show(!s.2.isEmpty||Bd.begins "corner" line)=false by
       rw[Bool.eq_false_iff];intro z;rw[Bool.or_eq_true,Bool.not_eq_true',List.isEmpty_eq_false_iff] at z;exact q8 z]
      have hcs:s.2=[]:=Classical.byContradiction fun z=>q8 (.inl z);refine yw ⟨_,rfl,l, "wall ",line,Bd.ascii "wall ",rfl,(by decide),(by decide),SqL.of (s23 _ _ hL),fun H4 s4=>⟨_,rfl,?_⟩⟩;rw[zf9 "wall" (Bd.ascii "wall ") line (by decide)];have s24:=s23.trans s4;cases hw:Bd.begins "wall" line with
      |true =>
       rw[if_pos hw] at k;refine yk ?_;have U4:=U.keep s24;refine⟨_,rfl,r,dx,_,rfl,U4.ob,rfl,_,rfl,r,l,X,s,line,rfl,⟨dx,pr,pc,rxs,ks,U4⟩,s24 _ _ hL,nl,hl,hcs,full,?_⟩;cases hb:yS s line with
       |error e =>
        rw[hb] at k;exact k.same s24
       |ok s' =>
        rw[hb] at k;exact fun H' X' f SR' fr=>k H' X' (fun b o e n=>f b o (s24 b o e) n) SR' fun z hz=>(fr z hz).imp_right s24.free
      |false =>
       rw[if_neg (by rw[hw];decide)] at k;refine yw ?_;clear U2;have s2:=s24;obtain⟨ri,x,wi,y,e1,e2,p1,p2⟩:=zeP U.ws h0;have U2:=U.keep s2;have p2':=p2.keep s2;obtain⟨d1,fs1,ob1,lk1⟩:=p2'.ob "take" (by decide) (by decide) (by decide);have hrd:=U2.rd;rw[e1,List.map_append] at hrd;refine⟨_,rfl,r,_,dx,_,_,rfl,U2.ob,T.zu.c,T.zC,rfl,_,rfl,pr,_,_,.ref x.1,rfl,rfl,SqL.of hrd,zbu _ _,x.1,d1,fs1,rfl,ob1,lk1,_,rfl,x.1,l,X,x.2,y,line,rfl,p2',U2.has,s2 _ _ hL,nl,hl,?_⟩;have hst:ZB s line=match yJ y line with
         |.error k=>.error k
         |.ok y'=>.ok (wi++[y'],s.2):=by
        have z:s=(wi++[y],s.2):=by rw[<-e2]
        rw[z];exact yZ _ _ _ _
       rw[hst] at k;cases hw:yJ y line with
       |error e =>
        rw[hw] at k;exact k.same s2
       |ok y' =>
        rw[hw] at k hst;dsimp only at k ⊢;intro H3 f3 W3;obtain⟨gd',_⟩:=zeq U.gd h0 hcs hst;exact SRd.last U2 e1 e2 f3 W3 gd' hw fun SR'=>k H3 X (fun b o e n=>f3 b o (s2 b o e) fun m=>n (by rw[U.eX,e1,List.flatMap_append];simp[m])) SR' fun z hz=>.inl hz
theorem zcc (T:Txt K mg a):FnOk P w K mg base (CXo P w) true 3 a.Z1 a.ZZ ["self", "rest"] (zjM (SR a.zM a.zw a.zn a.z4) zbz a.zm):=by
 have zf:=zy (P:=P) (w:=w) (base:=base) (cm:=true) T;have Zr:=zan (P:=P) (w:=w) (base:=base) T;have zaB:=zdM (P:=P) (w:=w) (base:=base) T;refine zF T.yT.F zce (fun vs H Q E h=>?_) (fun cdv A outer s0 H vs Q E hr h=>?_)
 ·obtain⟨r,l,X,s,line,rfl,_⟩:=h;rfl
 ·obtain⟨r,l,X,s,line,rfl,⟨dx,pr,pc,rxs,ks,U⟩,hL,hl,k⟩:=h;refine⟨_,(zh (yf (zap (zco (pv 0) T.zu.c T.yt.M Zr hr.q T.yt.b .nil takes_cx.passes)) (zi (zQ takes_cx rfl (zP (T.zj.k0 T.zb) zf hr.q rfl T.zj.m T.zb.b takes_cx (za (zr (v:=.int 1) rfl T.yq ⟨_,rfl⟩) ze)))) zO)
   (zh (yf (PW.pt (zj2 (zH (zhc hr.units) (pv 1) (z7 ze) (zJ _)) (zg6 (PW.pt (ziG (zH (zjI hr.units0) (zo (pv 0) rfl) (z7 ze) (zJ _)) (zfQ (zap (zD zaB hr.q rfl T.yc.m T.yc.F.kp T.yc.b .nil takes_cx.passes (za (pv 1) (za (zr (v:=.str "corner ") rfl T.zdH ⟨_,rfl⟩) ze)))))))))) (zi (zQ takes_cx rfl (zP (T.zj.k0 T.zb) zf hr.q rfl T.zj.m T.zb.b takes_cx (za (zr (v:=.int 8) rfl T.zbR ⟨_,rfl⟩) ze)))) zO)
   (zi (yf (zH (zhc hr.units) (pv 1) (z7 ze) (zJ _)) (zi (zQ takes_cx rfl (zP (T.zj.k0 T.zb) zf hr.q rfl T.zj.m T.zb.b takes_cx (za (zr (v:=.int 1) rfl T.yq ⟨_,rfl⟩) ze)))) zO)))),?_⟩
  unfold zbz at k;refine⟨_,rfl,r,dx,_,rfl,U.ob,rfl,r,X,s,rfl,⟨dx,pr,pc,rxs,ks,U⟩,fun H1 s1=>⟨_,rfl,?_⟩⟩;cases hh:yA s with
  |true =>
   rw[if_pos hh] at k;exact yk (zA T (k.same s1))
  |false =>
   rw[if_neg (by rw[hh];decide)] at k;refine yw ?_;have neL:∀{σ:L2.St} {H':Hp} {R:Bool->Hp->Prop},σ[1]?=some (some (.ref l))->Same H H'->(∀H6,Same H' H6->R (!decide (line=[])) H6)->zmt (tOp (zq2 K) (zbY 1) (zq1 zlZ)) σ H' R:=fun hσ s' r'=>by
    refine⟨_,hσ,Nat.zero_le _,fun p1 n1=>?_⟩;have s6:=(Same.refl _).new (o:=.lst []) n1;refine⟨_,_,zdc (SqL.of (s6 _ _ (s' _ _ hL))),zdc (b:=[]) (SqL.of zc),yy _,yy _,_,rfl,?_⟩;rw[zfR];exact r' _ s6
   dsimp only[zfL,zc4,zgR,ziE];refine zjB (x:=!decide (line=[])) (y:=!s.2.isEmpty||Bd.begins "corner" line) (fun H6=>Same H1 H6) (fun R r'=>neL rfl s1 r') (fun _ H2 s2 R r'=>?_) fun H3 s3=>?_
   ·have s12:=s1.trans s2;have U2:=U.keep s12;refine zjn (x:=!s.2.isEmpty) (y:=Bd.begins "corner" line) (fun H6=>Same H1 H6) (fun R2 r2=>?_) (fun hx H6 s6 R2 r2=>?_) r'
    ·refine⟨_,rfl,r,_,dx,_,_,rfl,U2.ob,T.zu.c,T.z8,rfl,Nat.zero_le _,fun q2 nq2=>⟨pc,q2,ks.map V.ref,rfl,rfl,SqL.of (by rw[zd (zg U2.cr nq2)];exact U2.cr),SqL.of zc,_,rfl,?_⟩⟩;rw[(zfm U).2];exact r2 _ (s2.new nq2)
    ·refine⟨_,rfl,l, "corner ",line,Bd.ascii "corner ",rfl,(by decide),(by decide),SqL.of (s6 _ _ (s1 _ _ hL)),fun H7 s7=>⟨_,rfl,?_⟩⟩;rw[zf9 "corner" (Bd.ascii "corner ") line (by decide)];exact r2 _ (s6.trans s7)
   ·have s13:=s1.trans s3;by_cases q8:line≠[]/\(s.2≠[]\/Bd.begins "corner" line=true)
    ·rw[if_pos q8] at k;rw[show(!decide (line=[])&&(!s.2.isEmpty||Bd.begins "corner" line))=true by
      rw[Bool.and_eq_true,Bool.or_eq_true,Bool.not_eq_true',Bool.not_eq_true',List.isEmpty_eq_false_iff,decide_eq_false_iff_not];exact q8]
     exact yk (zA T (k.same s13))
    ·rw[if_neg q8] at k;rw[show(!decide (line=[])&&(!s.2.isEmpty||Bd.begins "corner" line))=false by
      rw[Bool.eq_false_iff];intro z;rw[Bool.and_eq_true,Bool.or_eq_true,Bool.not_eq_true',Bool.not_eq_true',List.isEmpty_eq_false_iff,decide_eq_false_iff_not] at z;exact q8 z]
     refine yw (neL rfl s13 fun H4 s4=>?_);have s14:=s13.trans s4;by_cases q:line=[]
     ·rw[if_neg (fun z=>z q)] at k;rw[decide_eq_true q];exact yw (k _ s14)
     ·rw[if_pos q] at k;rw[decide_eq_false q];exact yk (zA T (k.same s14))
end
def siF (pw pt pc:Addr):List (Str×V):=[("walls",.ref pw),("texts",.ref pt),("corners",.ref pc)]
structure zoJ (CSi CW CO CC:Addr) (H:Hp) (p dx pw pt pc:Addr) (ws ts ks:List Addr) (s:SS):Prop where
 ob:H p=some (.ins CSi dx (siF pw pt pc))
 wl:H pw=some (.lst (ws.map V.ref))
 ws:Walls CW CO H ws (s.1.map zZ)
 tx:H pt=some (.lst (ts.map V.ref))
 ts:Rows H ts (s.1.map zmj)
 cl:H pc=some (.lst (ks.map V.ref))
 cs:Crs CC H ks s.2
 gd:SGood s
 st:STx 6000 s
 fl:∀x∈s.1,x.1.length=6
 gh:∀w∈s.1,zmd w.1
def zj5 (CSi CW CO CC:Addr) (H:Hp) (p:Addr) (s:SS):Prop:=∃(dx pw pt pc:Addr) (ws ts ks:List Addr),zoJ CSi CW CO CC H p dx pw pt pc ws ts ks s
def zoW (C:Addr):Sp:=fun vs H Q _=>∃(p dx:Addr) (v0 v1 v2:V),vs=[.ref p,v0,v1,v2]/\H p=some (.ins C dx []) /\
 ∀H':Hp,H' p=some (.ins C dx [("walls",v0),("texts",v1),("corners",v2)])->(∀b,b≠p->H' b=H b)->Q .non H'
def zeF (t:Bd.Bytes):Except Bd.Fault SS:=Z7 yo zbz ([],[]) (fl 10 t)
def zl6 (K:PySem.W.Frag) (CSi CW CO CC CF:Addr):Sp:=fun vs H Q E=>∃(l:Addr) (t:Bd.Bytes),vs=[.ref l]/\SqL K H l (iB t)/\t.length<=6000 /\
 match zeF t with
 |.error e=>FailsW CF E H e.1 e.2
 |.ok s=>∀(H':Hp) (p:Addr),Same H H'->zj5 CSi CW CO CC H' p s->Q (.ref p) H'
def zox (K:PySem.W.Frag) (CSi CW CO CC CF CT:Addr):Sp:=fun vs H Q E=>∃(l:Addr) (t:Bd.Bytes),vs=[.ref l]/\SqL K H l (iB t)/\t.length<=6000 /\
 if 4096<t.length then FailsN CT (-1) E H else match zeF t with
 |.error e=>FailsW CF E H e.1 e.2
 |.ok s=>∀(H':Hp) (p:Addr),Same H H'->zj5 CSi CW CO CC H' p s->Q (.ref p) H'
theorem zoz {w:WS}(h:∀x∈w.2.2,x.length<=6000) (l:w.2.2.length<=14):(zmj w).length<=100000:=by
 have g:∀ls:List Bd.Bytes,(∀x∈ls,x.length<=6000)->(ls.flatMap fun b=>b++[10]).length<=6001*ls.length:=fun ls=>by
  induction ls with
  |nil=>intro _;exact Nat.le_refl _
  |cons x r ih =>
   intro h;have h1:=h x (by simp);have h2:=ih fun y hy=>h y (by simp[hy]);simp only[List.flatMap_cons,List.length_append,List.length_cons,List.length_nil];omega
 have:=g _ h;unfold zmj;omega
section
variable {P:Program}{w:World}{K:PySem.W.Frag}{mg:Str->Option Value}{base:Heap}{a:Ad}
theorem zfO (T:Txt K mg a):FnOk P w K mg base (CXo P w) true 1 a.zc2 a.zdd ["self", "walls", "texts", "corners"] (zoW a.zbf):=by
 refine zF T.zaV.F zf4 (fun vs H Q E h=>?_) (fun cdv A outer s0 H vs Q E hr h=>?_)
 ·obtain⟨p,dx,v0,v1,v2,rfl,_⟩:=h;rfl
 ·obtain⟨p,dx,v0,v1,v2,rfl,hp,k⟩:=h;refine⟨_,(zh (yM (pv 0) (pv 1) rfl)
   (zh (yM (pv 0) (pv 2) rfl)
   (zi (yM (pv 0) (pv 3) rfl)))),?_⟩
  refine⟨_,rfl,_,rfl,p,_,dx,_,rfl,hp,T.zbX.c,T.zcP,(by show 0<1000;decide),?_⟩;refine⟨_,rfl,_,rfl,p,_,dx,_,rfl,zc,T.zbX.c,T.zjV,(by show 1<1000;decide),?_⟩;rw[yB];refine⟨_,rfl,_,rfl,p,_,dx,_,rfl,zc,T.zbX.c,T.Z6,(by show 2<1000;decide),?_⟩;rw[yB];exact k _ zc fun b hb=>zd hb
theorem zjR (T:Txt K mg a):FnOk P w K mg base (CXo P w) true 14 a.zgr a.zgk ["text"] (zl6 K a.zbf a.yj a.zn a.z4 a.zI):=by
 have zjP:FnOk P w K mg base (CXo P w) true 13 a.zcK a.zc1 ["text", "reader"] (zmh K (SR a.zM a.zw a.zn a.z4) yo zbz a.zI) :=
  zii T T.zu.c T.Z2.M T.yT.M T.Z2.b T.yT.b (ze2 T) (zcc T) (by decide) (by decide) SR.obj SR.keep
 have zdo:=zcN (P:=P) (w:=w) (base:=base) T;have yQ:=ZC (P:=P) (w:=w) (base:=base) T;have zha:=zgS (P:=P) (w:=w) (base:=base) T;have zgO:=zfO (P:=P) (w:=w) (base:=base) T;refine zF T.zbM.F za8 (fun vs H Q E h=>?_) (fun cdv A outer s0 H vs Q E hr h=>?_)
 ·obtain⟨l,t,rfl,_⟩:=h;rfl
 ·obtain⟨l,t,rfl,hS,hl,k⟩:=h;have zl:=szl;refine⟨_,(zh (z6 (i:=1) za8.nd rfl (lq rfl) (zko (T.zu.k0 T.Zc) zdo hr.q rfl T.zu.m T.Zc.b .nil takes_cx.passes))
   (zh (yr (zD zjP hr.q rfl T.za7.m T.za7.F.kp T.za7.b .nil takes_cx.passes (za (pv 0) (za (pv 1) ze))))
   (zh (zbd (i:=2) takes_cx rfl rfl (own:=[("wall_reader",3)]) rfl za8.nd rfl rfl rfl (yC (zo (pv 1) rfl)) (bkq ["text", "reader", "texts", "wall_reader"] (zk zdJ) [("wall_reader",3)]) (fun s H C cl fp xe tk=>(zY (i:=3) za8.nd rfl (lq rfl))) (fun s H C cl fp xe tk=>Zh) (fun s H C cl fp xe tk=>(zD zha hr.q rfl T.Z9.m T.Z9.F.kp T.Z9.b .nil tk.passes (za (zd9 (K:=K) rfl (pv 3) rfl) ze))))
   (zi (zL (zg4 (T.zbX.k0 T.zaV) zgO hr.q rfl T.zbX.m T.zaV.b .nil takes_cx.passes (za (zco (pv 1) T.zu.c T.z9.M yQ hr.q T.z9.b .nil takes_cx.passes) (za (pv 2) (za (zo (pv 1) rfl) ze))))))))),?_⟩
  refine fun r dx nr ndx ndr=>⟨r,dx,rfl,zc,fun H1 X f1 W0 fr=>⟨rfl,?_⟩⟩
  have s1:Same H H1:=fun b o e=>f1 b o (by rw[zd (zg e nr),zd (zg e ndx)];exact e) (zg e nr);have nX:∀x∈X,H x=none:=fun x hx=>by
   have e:=fr x hx;by_cases q:x=r
   ·rw[q];exact nr
   ·rw[zd q] at e;by_cases q2:x=dx
    ·rw[q2];exact ndx
    ·rw[zd q2] at e;exact e
  have offX:∀{b:Addr} {o:HO},H b=some o->b∉X:=fun e m=>by
   rw[nX _ m] at e;cases e
  refine⟨_,rfl,_,rfl,l,r,X,_,t,rfl,s1.seq hS,hl,W0,W0.has,?_⟩;unfold zeF at k;cases hb:Z7 yo zbz ([],[]) (fl 10 t) with
  |error e =>
   rw[hb] at k;exact fun fr d q H' m e1 e2=>k fr d q H' (fun b o e n=>m b o (s1 b o e) (offX e) n) e1 e2
  |ok s =>
   rw[hb] at k;intro H2 X2 f2 W2 hX2;have s2:Same H H2:=fun b o e=>f2 b o (s1 b o e) (offX e);obtain⟨dx2,pr,pc,rxs,ks,U⟩:=W2;have fh:=znp hb;have full:=zmM U.gd fh;have st:STx 6000 s:=zpO (fun x hx=>by
    have m:=(zea 10 t).2 x (by rw[<-zfy 10 t];exact List.mem_append_left _ hx);omega) hb
   have lr:=Paired.length U.ws;have w4:=U.gd.w4;refine⟨_,rfl,r,_,dx2,_,_,rfl,U.ob,T.zu.c,T.zC,rfl,pr,rfl,⟨_,SqL.of U.rd⟩,fun D hD=>?_⟩;refine Z4 (K:=K) (a:=pr) (xs:=rxs.map fun x=>V.ref x.1) (fun i H'=>∃ts:List Addr,Same H2 H'/\H' D=some (.lst (ts.map V.ref))/\Rows H' ts ((s.1.take i).map zmj)/\D∉ts)
    ⟨[],(Same.refl _).new hD,zc,.nil,by simp⟩ (fun i H' _ ⟨_,s3,_⟩=>SqL.of (s3 _ _ U.rd)) ?_ ?_
   ·rintro i v H' hi ⟨ts,s3,hD3,rows,nD⟩;rw[List.getElem?_map] at hi;obtain⟨x,hx,rfl⟩:∃x,rxs[i]?=some x/\v=.ref x.1:=by
     cases e:rxs[i]? with
     |none=>rw[e] at hi;cases hi
     |some x=>rw[e] at hi;exact⟨x,rfl,(Option.some.inj hi).symm⟩
    obtain⟨y,hy,Wz⟩:=Paired.get U.ws hx;have ym:=List.mem_of_getElem? hy;have il:=(List.getElem?_eq_some_iff.mp hy).1;obtain⟨d3,pl3,ph3,po3,hvs3,as3,las3,_,V3⟩:=Wz;have V4:=V3.keep s3;have l14:y.2.2.length=y.1.length+y.2.1.length:=V3.l14;have o8:y.2.1.length<=8:=V3.o8;have h6:y.1.length<=6:=V3.h6;have tl:=zoz (st.lb y ym) (by omega);have lt:=Paired.length rows;rw[List.length_map,List.length_take] at lt;refine⟨rfl,_,rfl,x.1,_,d3,_,_,rfl,V4.ob,T.zx.c,T.yU,rfl,pl3,las3,y.2.2,rfl,V4.ln,V4.rows,tl,fun H4 q s4 nq hq=>?_⟩;have hD4:=s4 _ _ hD3;have Dq:D≠q:=zg hD3 nq;refine⟨_,hD4,(by rw[List.length_map];omega),ts++[q],(s3.trans s4).set hD,?_,?_,?_⟩
    ·rw[zc,List.map_append];rfl
    ·rw[zV hy,List.map_append];exact Paired.snoc (Rows.upd (Rows.same s4 rows) nD) (by rw[zd (Ne.symm Dq)];exact hq)
    ·simp only[List.mem_append,List.mem_singleton,not_or];exact⟨nD,Dq⟩
   ·rintro H3 ⟨ts,s3,hD3,rows,nD⟩;rw[List.length_map,lr,List.take_length] at rows;have U3:=U.keep s3;refine⟨_,rfl,r,dx2,_,rfl,U3.ob,rfl,r,X2,s,rfl,⟨dx2,pr,pc,rxs,ks,U3⟩,full,fun H4 pw ws s4 npw hpw wls=>?_⟩;have U4:=U3.keep s4;refine⟨_,rfl,_,rfl,r,_,dx2,_,_,rfl,U4.ob,T.zu.c,T.z8,rfl,fun xs ds nx nds dxx=>⟨xs,ds,_,_,_,rfl,zc,fun H7 e7 kp=>⟨rfl,?_⟩⟩⟩;have s7:Same H4 H7:=fun b o e=>by
     have q1:b≠xs:=zg e nx;have q2:b≠ds:=zg e nds;rw[kp b q1,zd q1,zd q2];exact e
    have s37:=s4.trans s7;exact k H7 xs ((s2.trans s3).trans s37) ⟨ds,pw,D,pc,ws,ts,ks,e7,s7 _ _ hpw,Walls.same s7 wls,s37 _ _ hD3,Rows.same s37 rows,s7 _ _ U4.cr,Crs.same s7 U4.cs,U.gd,st,full,U.gh⟩
theorem zlz (T:Txt K mg a):FnOk P w K mg base (CXo P w) true 15 a.ziP a.ziO ["u"] (zox K a.zbf a.yj a.zn a.z4 a.zI a.y9):=by
 have zk1:=zjR (P:=P) (w:=w) (base:=base) T;have zie:=zh3 (P:=P) (w:=w) (base:=base) T;refine zF T.zec.F zlJ (fun vs H Q E h=>?_) (fun cdv A outer s0 H vs Q E hr h=>?_)
 ·obtain⟨l,t,rfl,_⟩:=h;rfl
 ·obtain⟨l,t,rfl,hS,hl,k⟩:=h;refine⟨_,(zh (yr (zD zie hr.q rfl T.zaE.m T.zaE.F.kp T.zaE.b .nil takes_cx.passes (za (z7 (za (pv 0) ze)) ze)))
   (zi (zL (zD zk1 hr.q rfl T.zbM.m T.zbM.F.kp T.zbM.b .nil takes_cx.passes (za (pv 0) ze))))),?_⟩
  refine⟨_,rfl,(by show 1<=sizeLine;decide),fun p1 n1=>?_⟩;have s1:Same H (upd H p1 (.lst [.ref l])):=(Same.refl _).new n1;refine⟨p1,[l],[t],rfl,zc,.cons (s1.seq hS) .nil,?_⟩;show if ((decide (4096<t.length)||false)=true) then _ else _
  by_cases q:4096<t.length
  ·rw[if_pos q] at k;rw[if_pos (by rw[decide_eq_true q];rfl)];exact k.same s1
  ·rw[if_neg q] at k;rw[if_neg (by rw[decide_eq_false q];decide)];refine⟨_,rfl,l,t,rfl,s1.seq hS,hl,?_⟩;cases hb:zeF t with
   |error e =>
    rw[hb] at k;exact k.same s1
   |ok x =>
    rw[hb] at k;exact fun H' p s=>k H' p (s1.trans s)
end
theorem zpo {X:Cx}{K:PySem.W.Frag}(hK:X.K=K):IxR X (zq7 K):=by
 subst hK;exact Z0
def nV (ps:List Nat):List V:=ps.map fun i=>V.int ((i:Nat):Int)
theorem zq4 (ps:List Nat):nV ps=(ps.map Int.ofNat).map V.int:=by
 unfold nV;rw[List.map_map];rfl
theorem zlU {ps:List Nat}{i:Nat}(h:i<ps.length):(nV ps)[i]?=some (.int ((ps.getD i 0:Nat):Int)):=by
 unfold nV;rw[List.getElem?_map,List.getD_eq_getElem?_getD,List.getElem?_eq_getElem h];rfl
def zpK (CSi CW CO CC:Addr):Sp:=fun vs H Q _=>∃(p:Addr) (s:SS),vs=[.ref p]/\zj5 CSi CW CO CC H p s/\Wp.CornersOk s.1.length s.2 /\
 ∀(H':Hp) (q:Addr),Same H H'->H' q=some (.lst (nV (Wp.partsP s.1.length s.2)))->Q (.ref q) H'
def zpi (CSi CW CO CC:Addr):Sp:=fun vs H Q _=>∃(p q:Addr) (s:SS) (ps:List Nat),vs=[.ref p,.ref q]/\zj5 CSi CW CO CC H p s/\H q=some (.lst (nV ps))/\ps.length=s.1.length/\(∀x∈ps,x<4)/\Wp.CornersOk s.1.length s.2 /\
 ∀H':Hp,Same H H'->Q (.int ((((Wp.numP ps).filter (Wp.ringP ps s.2)).length:Nat):Int)) H'
theorem zi2 (n:Nat):∀l:List Bd.Corner,(Wp.partsP n l).length=n:=by
 have g:∀(l:List Bd.Corner) (ps:List Nat),(l.foldl Wp.joinP ps).length=ps.length:=fun l=>by
  induction l with
  |nil=>intro ps;rfl
  |cons k l ih=>intro ps;rw[List.foldl_cons,ih];unfold Wp.joinP;rw[List.length_map]
 intro l;unfold Wp.partsP;rw[g,List.length_range]
theorem zqN {n:Nat}{l:List Bd.Corner}(h:Wp.CornersOk n l):l.length<=n:=Wp.ok_len h
section
variable {P:Program}{w:World}{K:PySem.W.Frag}{mg:Str->Option Value}{base:Heap}{a:Ad}
theorem zlb (T:Txt K mg a):FnOk P w K mg base (CXo P w) true 1 a.zht a.zhW ["site"] (zpK a.zbf a.yj a.zn a.z4):=by
 refine zF T.zcR.F Zp (fun vs H Q E h=>?_) (fun cdv A outer s0 H vs Q E hr h=>?_)
 ·obtain⟨p,s,rfl,_⟩:=h;rfl
 ·obtain⟨p,s,rfl,⟨dx,pw,pt,pc,ws,ts,ks,S⟩,co,k⟩:=h;have zl:=szl;have lk:ks.length=s.2.length:=Paired.length S.cs;have lw:=Paired.length S.ws;rw[List.length_map] at lw;have w4:=S.gd.w4;refine⟨_,(zh (z6 (i:=1) Zp.nd rfl (lq rfl) (zke rfl rfl T.z_range rfl T.z_list (za (zK zG rfl T.z_len yN (za (zo (pv 0) rfl) ze)) ze)))
   (zh (zcV takes_cx.po rfl (yC (zo (pv 0) rfl)) (zY (i:=2) Zp.nd rfl (lq rfl)) (zh (z6 (i:=3) Zp.nd rfl (lq rfl) (zS zN (pv 1) (zS Z0 (zo (pv 2) rfl) zq (fun _ _=>rfl)) (fun _ _=>rfl)))
   (zh (z6 (i:=4) Zp.nd rfl (lq rfl) (zS zN (pv 1) (zS Z0 (zo (pv 2) rfl) zq (fun _ _=>rfl)) (fun _ _=>rfl)))
   (zi (zbd (i:=1) takes_cx rfl rfl (own:=[("part",5)]) rfl Zp.nd rfl rfl rfl (yC (pv 1)) (bkq ["site", "parts", "corner", "one", "other", "part"] (zk zeU) [("part",5)]) (fun s H C cl fp xe tk=>(zY (i:=5) Zp.nd rfl (lq rfl))) (fun s H C cl fp xe tk=>Zh) (fun s H C cl fp xe tk=>(zhh (zH zcs (pv 5) (pv 4) (zJ _)) (pv 3) (pv 5))))))))
   (zi (zL (pv 1))))),?_⟩
  refine⟨_,rfl,p,_,dx,_,_,rfl,S.ob,T.zbX.c,T.zcP,rfl,pw,_,rfl,.inl (SqL.of S.wl),s.1.length,by rw[List.length_map,lw],by omega,fun q nq=>?_⟩;have s1:Same H (upd H q (.lst ((List.range s.1.length).map fun i=>V.int ((i:Nat):Int)))):=(Same.refl _).new nq;refine⟨_,rfl,p,_,dx,_,_,rfl,s1 _ _ S.ob,T.zbX.c,T.Z6,rfl,pc,rfl,⟨_,SqL.of (s1 _ _ S.cl)⟩,zby (K:=K) (a:=pc) (xs:=ks.map V.ref) (fun i σ H'=>∃(q:Addr) (v2 v3 v4 v5:Option V),σ=[some (.ref p),some (.ref q),v2,v3,v4,v5]/\Same H H'/\H' q=some (.lst (nV (Wp.partsP s.1.length (s.2.take i)))))
   ⟨q,none,none,none,none,rfl,s1,zc⟩ (fun i σ H' _ ⟨_,_,_,_,_,_,sm,_⟩=>SqL.of (sm _ _ S.cl)) ?_ ?_⟩
  ·rintro i y σ H' hi ⟨q,v2,v3,v4,v5,rfl,s2,hq⟩;obtain⟨c,hc,rfl⟩:=zaD hi;obtain⟨x,hx,dc,t1,t2,e1,e2,e3⟩:=Paired.get S.cs hc;obtain⟨g1,g2,g3,g4⟩:=co.lt x (List.mem_of_getElem? hx);have pl:=zi2 s.1.length (s.2.take i);generalize hps:Wp.partsP s.1.length (s.2.take i)=ps at hq pl;refine⟨_,rfl,_,rfl,c,_,dc,_,_,rfl,s2 _ _ e1,T.z0.c,T.zW,rfl,t1,_,_,_,rfl,rfl,.inl (.inl (s2 _ _ e2)),zE (j:=0) rfl,q,_,_,.int ((ps.getD x.a 0:Nat):Int),rfl,rfl,SqL.of hq,zE (zlU (by omega)),?_⟩;refine⟨_,rfl,_,rfl,c,_,dc,_,_,rfl,s2 _ _ e1,T.z0.c,T.yg,rfl,t2,_,_,_,rfl,rfl,.inl (.inl (s2 _ _ e3)),zE (j:=0) rfl,q,_,_,.int ((ps.getD x.c 0:Nat):Int),rfl,rfl,SqL.of hq,zE (zlU (by omega)),?_⟩;refine⟨_,rfl,q,rfl,⟨_,SqL.of hq⟩,fun D hD=>?_⟩;refine Z4 (K:=K) (a:=q) (xs:=nV ps) (fun j H2=>Same H' H2/\H2 D=some (.lst (nV ((ps.take j).map fun p=>if p=ps.getD x.c 0 then ps.getD x.a 0 else p)))) ⟨(Same.refl _).new hD,zc⟩ (fun j H2 _ ⟨s3,_⟩=>SqL.of (s3 _ _ hq)) ?_ ?_
   ·rintro j y H2 hj ⟨s3,hD3⟩;unfold nV at hj;rw[List.getElem?_map] at hj;obtain⟨n,hn,rfl⟩:∃n,ps[j]?=some n/\y=.int ((n:Nat):Int):=by
     cases e:ps[j]? with
     |none=>rw[e] at hj;cases hj
     |some n=>rw[e] at hj;exact⟨n,rfl,(Option.some.inj hj).symm⟩
    have jl:=(List.getElem?_eq_some_iff.mp hn).1;refine⟨rfl,?_⟩;dsimp only[zpj];rw[if_pos rfl];have fin:∀m:Nat,m=(if n=ps.getD x.c 0 then ps.getD x.a 0 else n)->∃acc,H2 D=some (.lst acc)/\acc.length<sizeLine/\Same H' (upd H2 D (.lst (acc++[V.int ((m:Nat):Int)])))/\upd H2 D (.lst (acc++[V.int ((m:Nat):Int)])) D=some (.lst (nV ((ps.take (j+1)).map fun p=>if p=ps.getD x.c 0 then ps.getD x.a 0 else p))):=fun m hm=>by
     refine⟨_,hD3,?_,s3.set hD,?_⟩
     ·unfold nV;rw[List.length_map,List.length_map,List.length_take];omega
     ·rw[zc,zV hn,hm];unfold nV;rw[List.map_append,List.map_append];rfl
    refine⟨_,rfl,_,rfl,rfl,_,rfl,?_⟩;by_cases q6:n=ps.getD x.c 0
    ·rw[decide_eq_true (show V.int ((n:Nat):Int)=V.int ((ps.getD x.c 0:Nat):Int) by rw[q6])];exact yk ⟨_,rfl,fin _ (by rw[if_pos q6])⟩
    ·rw[decide_eq_false (show ¬V.int ((n:Nat):Int)=V.int ((ps.getD x.c 0:Nat):Int) from fun z=>q6 (by have:=V.int.inj z;omega))];exact yw ⟨_,rfl,fin _ (by rw[if_neg q6])⟩
   ·rintro H2 ⟨s3,hD3⟩;refine⟨D,_,_,_,_,rfl,s2.trans s3,?_⟩;rw[hD3];unfold nV;rw[List.length_map,List.take_length,zV hx];unfold Wp.partsP at hps ⊢;rw[List.foldl_append,hps];rfl
  ·rintro σ H' ⟨q,v2,v3,v4,v5,rfl,s2,hq⟩;rw[List.length_map,lk,List.take_length] at hq;exact⟨_,rfl,k _ q s2 hq⟩
theorem zkH (T:Txt K mg a):FnOk P w K mg base (CXo P w) true 1 a.zh0 a.zh2 ["site", "parts"] (zpi a.zbf a.yj a.zn a.z4):=by
 refine zF T.zcC.F ZO (fun vs H Q E h=>?_) (fun cdv A outer s0 H vs Q E hr h=>?_)
 ·obtain⟨p,q,s,ps,rfl,_⟩:=h;rfl
 ·obtain⟨p,q,s,ps,rfl,⟨dx,pw,pt,pc,ws,ts,ks,S⟩,hq,pl,p4,co,k⟩:=h;have zl:=szl;have lk:ks.length=s.2.length:=Paired.length S.cs;refine⟨_,(zh (z6 (i:=2) ZO.nd rfl (lq rfl) zq)
   (zh (zcV takes_cx.po rfl (yC (zkJ rfl (zm3 rfl) rfl T.z_set rfl T.z_sorted zjg (za (pv 1) ze))) (zY (i:=3) ZO.nd rfl (lq rfl)) (zh (zbd (i:=4) takes_cx rfl rfl (own:=[("corner",5)]) rfl ZO.nd rfl rfl rfl (yC (zo (pv 0) rfl)) (bkq ["site", "parts", "rings", "part", "corners", "corner"] (zk zeJ) [("corner",5)]) (fun s H C cl fp xe tk=>(zY (i:=5) ZO.nd rfl (lq rfl))) (fun s H C cl fp xe tk=>(zpz (zH zcs (zS (zhY (K:=K) rfl) (pv 1) (zS (zpo (K:=K) rfl) (zd9 (K:=K) rfl (pv 5) rfl) zq (fun _ _=>rfl)) (fun _ _=>rfl)) (pv 3) (zJ _)))) (fun s H C cl fp xe tk=>(pv 5)))
   (zi (yf (zH zcs (zK zG rfl T.z_len yN (za (pv 4) ze)) (zct PySem.F.plainAttrs_list PySem.F.slot_list_count PySem.F.type_list_count zm8 (pv 1) (za (pv 3) ze)) (zJ _)) (zi (zqb (i:=2) ZO.nd rfl (lq rfl) zq zp7)) zO))))
   (zi (zL (pv 2))))),?_⟩
  refine⟨_,rfl,q,ps,rfl,SqL.of hq,p4,fun r nr=>?_⟩;have s1:Same H (upd H r (.lst (nV (Wp.numP ps)))):=(Same.refl _).new nr;have hr1:upd H r (.lst (nV (Wp.numP ps))) r=some (.lst (nV (Wp.numP ps))):=zc;have gen:(.lst (((List.range 4).filter fun k=>ps.contains k).map fun i=>V.int ((i:Nat):Int)):HO)=.lst (nV (Wp.numP ps)):=rfl;rw[gen];generalize upd H r (.lst (nV (Wp.numP ps)))=H1 at s1 hr1;refine⟨r,rfl,⟨_,SqL.of hr1⟩,zby (K:=K) (a:=r) (xs:=nV (Wp.numP ps)) (fun i σ H'=>∃v3 v4 v5:Option V,σ=[some (.ref p),some (.ref q),some (.int (((((Wp.numP ps).take i).filter (Wp.ringP ps s.2)).length:Nat):Int)),v3,v4,v5]/\Same H1 H')
   ⟨none,none,none,rfl,Same.refl _⟩ (fun i σ H' _ ⟨_,_,_,_,s2⟩=>SqL.of (s2 _ _ hr1)) ?_ ?_⟩
  ·rintro i y σ H' hi ⟨v3,v4,v5,rfl,s2⟩;unfold nV at hi;rw[List.getElem?_map] at hi;obtain⟨v,hv,rfl⟩:∃n,(Wp.numP ps)[i]?=some n/\y=.int ((n:Nat):Int):=by
    cases e:(Wp.numP ps)[i]? with
    |none=>rw[e] at hi;cases hi
    |some n=>rw[e] at hi;exact⟨n,rfl,(Option.some.inj hi).symm⟩
   have s12:=s1.trans s2;have hq2:=s12 _ _ hq;refine⟨_,rfl,p,_,dx,_,_,rfl,s12 _ _ S.ob,T.zbX.c,T.Z6,rfl,pc,rfl,⟨_,SqL.of (s12 _ _ S.cl)⟩,fun D hD=>?_⟩;refine Z4 (K:=K) (a:=pc) (xs:=ks.map V.ref) (fun j H2=>∃xs:List V,Same H' H2/\H2 D=some (.lst xs)/\xs.length=((s.2.take j).filter fun k=>ps.getD k.a 0 == v).length) ⟨[],(Same.refl _).new hD,zc,rfl⟩ (fun j H2 _ ⟨_,s3,_⟩=>SqL.of (s3 _ _ (s12 _ _ S.cl))) ?_ ?_
   ·rintro j y H2 hj ⟨xs,s3,hD3,lx⟩;obtain⟨c,hc,rfl⟩:=zaD hj;obtain⟨x,hx,dc,t1,t2,e1,e2,e3⟩:=Paired.get S.cs hc;obtain⟨g1,g2,g3,g4⟩:=co.lt x (List.mem_of_getElem? hx);have s13:=s12.trans s3;have jl:=(List.getElem?_eq_some_iff.mp hx).1;refine⟨rfl,_,rfl,_,rfl,c,_,dc,_,_,rfl,s13 _ _ e1,T.z0.c,T.zW,rfl,t1,_,_,_,rfl,rfl,.inl (.inl (s13 _ _ e2)),zE (j:=0) rfl,q,_,_,.int ((ps.getD x.a 0:Nat):Int),rfl,rfl,SqL.of (s3 _ _ hq2),zE (zlU (by omega)),_,rfl,rfl,_,rfl,?_⟩;rw[zV hx,List.filter_append,List.length_append];by_cases q6:ps.getD x.a 0=v
    ·rw[decide_eq_true (show V.int ((ps.getD x.a 0:Nat):Int)=V.int ((v:Nat):Int) by rw[q6])];refine yk ⟨_,rfl,_,hD3,?_,_,s3.set hD,zc,?_⟩
     ·have:=List.length_filter_le (fun k:Bd.Corner=>ps.getD k.a 0 == v) (s.2.take j);rw[List.length_take] at this;have c8:=zqN co;have:=S.gd.w4;omega
     ·rw[List.length_append,lx,List.filter_cons_of_pos (by rw[q6];exact beq_self_eq_true _)];rfl
    ·rw[decide_eq_false (show ¬V.int ((ps.getD x.a 0:Nat):Int)=V.int ((v:Nat):Int) from fun z=>q6 (by have:=V.int.inj z;omega))];refine yw ⟨xs,s3,hD3,?_⟩;rw[lx,List.filter_cons_of_neg (by rw[beq_iff_eq];exact q6)];rfl
   ·rintro H2 ⟨xs,s3,hD3,lx⟩;rw[List.length_map,lk,List.take_length] at lx;refine⟨_,rfl,D,xs,rfl,.inl (SqL.of hD3),_,rfl,.inl ⟨rfl,_,SqL.of (s3 _ _ hq2)⟩,_,rfl,q,ps.map Int.ofNat,_,rfl,rfl,(by rw[<-zq4];exact SqL.of (s3 _ _ hq2)),rfl,_,rfl,?_⟩;have ec:((ps.map Int.ofNat).count ((v:Nat):Int))=(ps.filter fun p=>p == v).length:=by
     rw[<-List.countP_eq_length_filter,List.count,List.countP_map];refine List.countP_congr fun z _=>?_;simp only[Function.comp,beq_iff_eq];exact⟨fun h=>Int.ofNat.inj h,fun h=>by rw[h];rfl⟩
    have sn:((Wp.numP ps).take (i+1)).filter (Wp.ringP ps s.2)=((Wp.numP ps).take i).filter (Wp.ringP ps s.2)++[v].filter (Wp.ringP ps s.2):=by rw[zV hv,List.filter_append]
    rw[lx,ec];by_cases q6:Wp.ringP ps s.2 v=true
    ·have q7:=q6;unfold Wp.ringP at q7;rw[beq_iff_eq] at q7;rw[q7,decide_eq_true rfl];refine yk ⟨_,rfl,_,_,rfl,rfl,⟨some (.int ((v:Nat):Int)),some (.ref D),v5,?_,s2.trans s3⟩⟩;rw[sn,List.filter_cons_of_pos q6,List.filter_nil,List.length_append];rfl
    ·have q7:¬(s.2.filter fun k=>ps.getD k.a 0 == v).length=(ps.filter fun p=>p == v).length:=fun z=>q6 (by unfold Wp.ringP;rw[beq_iff_eq];exact z);rw[decide_eq_false (show ¬V.int (((s.2.filter fun k=>ps.getD k.a 0 == v).length:Nat):Int)=V.int (((ps.filter fun p=>p == v).length:Nat):Int) from fun z=>q7 (by have:=V.int.inj z;omega))];refine yw ⟨some (.int ((v:Nat):Int)),some (.ref D),v5,?_,s2.trans s3⟩;rw[sn,List.filter_cons_of_neg q6,List.filter_nil,List.append_nil];rfl
  ·rintro σ H' ⟨v3,v4,v5,rfl,s2⟩;refine⟨_,rfl,?_⟩;have e:(nV (Wp.numP ps)).length=(Wp.numP ps).length:=List.length_map _;rw[e,List.take_length];exact k _ (s1.trans s2)
end
end Wb
section
namespace Wb
open PySem PySem.Spec PyProof.Rows L2 Wm
open PySem.W (Codec)
theorem zpI (ns:List Int) (hb:∀x∈ns,0<=x/\x<=255):ns.map V.int=iB (SiteNeutral.text ns)/\(SiteNeutral.text ns).length=ns.length:=by
 refine⟨?_,List.length_map _⟩;unfold iB SiteNeutral.text;rw[List.map_map];refine List.map_congr_left fun x hx=>?_;obtain⟨h0,h1⟩:=hb x hx;show V.int x=V.int (((UInt8.ofNat x.toNat).toNat:Nat):Int);rw[UInt8.toNat_ofNat',Nat.mod_eq_of_lt (by omega),Int.toNat_of_nonneg h0]
def zdS (t:Bd.Bytes):List Int:=if 4096<t.length then[-1,0,0] else match zeF t with
 |.error _=>[-6,0,0]
 |.ok s=>[0,4,((s.1.length:Nat):Int),((s.2.length:Nat):Int),(((Wp.numP (Wp.partsP s.1.length s.2)).length:Nat):Int),((((Wp.numP (Wp.partsP s.1.length s.2)).filter (Wp.ringP (Wp.partsP s.1.length s.2) s.2)).length:Nat):Int),0]
theorem zpn {s s':SS}{x:Bd.Bytes}(h:s.1.length<=4) (e:yo s x=.ok s'):s'.1.length<=4:=by
 unfold yo yS ZB at e;grind
theorem zoo:∀(l:List Bd.Bytes) (i:Nat) (s s':SS),s.1.length<=4->zeo yo l i s=.ok s'->s'.1.length<=4
 |[],i,s,s',h,e=>by
  obtain rfl:=Except.ok.inj e;exact h
 |x::l,i,s,s',h,e=>by
  rw[zeo] at e;cases hs:yo s x with
  |error k=>rw[hs] at e;cases e
  |ok s1 =>
   rw[hs] at e;exact zoo l (i+1) s1 s' (zpn h hs) e
theorem zpA {z:List Bd.Bytes×Bd.Bytes}{s:SS}(e:Z7 yo zbz ([],[]) z=.ok s):s.1.length<=4:=by
 unfold Z7 at e;cases hr:zeo yo z.1 0 ([],[]) with
 |error k=>rw[hr] at e;cases e
 |ok s1 =>
  rw[hr] at e;dsimp only at e;cases hf:zbz s1 z.2 with
  |some k=>rw[hf] at e;cases e
  |none =>
   rw[hf] at e;obtain rfl:=Except.ok.inj e;exact zoo _ 0 ([],[]) _ (by decide) hr
theorem zmx {t:Bd.Bytes}{s:SS}(h:zeF t=.ok s):Wp.CornersOk s.1.length s.2:=by
 have e:=zmp t;unfold zeF at h;rw[h] at e;have z:=Wp.site_ok e;rw[List.length_map] at z;exact z
def zjW (K:PySem.W.Frag):Sp:=fun vs H Q _=>∃(l:Addr) (t:Bd.Bytes),vs=[.ref l]/\SqL K H l (iB t)/\t.length<=6000/\∀(H':Hp) (p:Addr),H' p=some (.lst ((zdS t).map V.int))->Q (.ref p) H'
section
variable {P:Program}{w:World}{K:PySem.W.Frag}{mg:Str->Option Value}{base:Heap}{a:Ad}
theorem zov (T:Txt K mg a):FnOk P w K mg base (CXo P w) true 17 a.zg2 a.zeb ["u"] (zjW K):=by
 have znw:=zlz (P:=P) (w:=w) (base:=base) T;have zhS:∀{cm:Bool},FnOk P w K mg base (CXo P w) cm 1 a.zfe a.zfh ["number", "row", "signs"] zh4:=zi7 T;have zmV:∀{cm:Bool},FnOk P w K mg base (CXo P w) cm 2 a.zf2 a.zfX ["refusal"] (ziV K):=zlp T;have zlH:=zlb (P:=P) (w:=w) (base:=base) T;have zlG:=zkH (P:=P) (w:=w) (base:=base) T;refine zF T.zmK.F zdz (fun vs H Q E h=>?_) (fun cdv A outer s0 H vs Q E hr h=>?_)
 ·obtain⟨l,t,rfl,_⟩:=h;rfl
 ·obtain⟨l,t,rfl,hS,hl,k⟩:=h;have zl:=szl;have roT:zkS K a.yx a.y9:=⟨T.ze6,T.zb7.D,T.zcr,T.zd3⟩
  have roF:zkS K a.yx a.zI:=⟨T.zen,T.yD.D,T.zbe,T.zb8⟩
  obtain⟨wt1,hwt1⟩:∃wt1:WX,wt1=RefWt K a.yx 5 (zdS t):=⟨_,rfl⟩
  refine⟨_,(zh (zlj (Wt:=wt1) rfl rfl (fun pn xe tk1=>(zi (z6 (i:=1) zdz.nd rfl (lq rfl) (zD znw hr.q rfl T.zec.m T.zec.F.kp T.zec.b .nil tk1.passes (za (pv 0) ze))))) (znT (i:=2) takes_cx rfl rfl zdz.nd rfl rfl rfl T.zf8.m (fun ea pn xe th10=>(zi (zL (zD zmV (hr.mark).q rfl T.zee.m T.zee.F.kp T.zee.b .nil th10.passes (za (pv 2) ze))))) (zma takes_cx)))
   (zh (z6 (i:=3) zdz.nd rfl (lq rfl) (zD zlH hr.q rfl T.zcR.m T.zcR.F.kp T.zcR.b .nil takes_cx.passes (za (pv 1) ze)))
   (zh (z6 (i:=4) zdz.nd rfl (lq rfl) (z7 (za (zK zG rfl T.z_len yN (za (zo (pv 1) rfl) ze)) (za (zK zG rfl T.z_len yN (za (zo (pv 1) rfl) ze)) (za (zkJ rfl zqt rfl T.z_set rfl T.z_len yN (za (pv 3) ze)) (za (zD zlG hr.q rfl T.zcC.m T.zcC.F.kp T.zcC.b .nil takes_cx.passes (za (pv 1) (za (pv 3) ze))) ze))))))
   (zi (zL (zD zhS hr.q rfl T.zbh.m T.zbh.F.kp T.zbh.b .nil takes_cx.passes (za zq (za (pv 4) (za (z7 ze) ze))))))))),?_⟩
  refine⟨⟨_,rfl,l,t,rfl,hS,hl,?_⟩,?_⟩
  ·by_cases q:4096<t.length
   ·rw[if_pos q];intro d q' H' sm e e2;rw[hwt1];exact RefWt.none rfl roT e e2 (if_pos q)
   ·rw[if_neg q];have dw:zdS t=match zeF t with
     |.error _=>[-6,0,0]
     |.ok s=>[0,4,((s.1.length:Nat):Int),((s.2.length:Nat):Int),(((Wp.numP (Wp.partsP s.1.length s.2)).length:Nat):Int),((((Wp.numP (Wp.partsP s.1.length s.2)).filter (Wp.ringP (Wp.partsP s.1.length s.2) s.2)).length:Nat):Int),0]:=if_neg q
    cases hr':zeF t with
    |error e =>
     rw[hr'] at dw;intro fr d q' H' sm ee e2;rw[hwt1];exact RefWt.text rfl roF ee e2 dw
    |ok s =>
     rw[hr'] at dw;intro H1 p s1 ⟨dx,pw,pt,pc,ws,ts,ks,S⟩;dsimp only at dw;have co:=zmx hr';have lw:=Paired.length S.ws;rw[List.length_map] at lw;have w4:=S.gd.w4;obtain⟨_,_,p4⟩:=Wp.fits_of (by omega) co;refine⟨_,rfl,p,s,rfl,⟨dx,pw,pt,pc,ws,ts,ks,S⟩,co,fun H2 q s2 hq=>?_⟩;have S2:zoJ a.zbf a.yj a.zn a.z4 H2 p dx pw pt pc ws ts ks s:=⟨s2 _ _ S.ob,s2 _ _ S.wl,Walls.same s2 S.ws,s2 _ _ S.tx,Rows.same s2 S.ts,s2 _ _ S.cl,Crs.same s2 S.cs,S.gd,S.st,S.fl,S.gh⟩
     refine⟨_,rfl,p,_,dx,_,_,rfl,S2.ob,T.zbX.c,T.zcP,rfl,pw,_,rfl,.inl (SqL.of S2.wl),_,rfl,p,_,dx,_,_,rfl,S2.ob,T.zbX.c,T.Z6,rfl,pc,_,rfl,.inl (SqL.of S2.cl),_,rfl,q,_,rfl,SqL.of hq,p4,?_⟩;refine⟨_,rfl,_,rfl,p,q,s,_,rfl,⟨dx,pw,pt,pc,ws,ts,ks,S2⟩,hq,zi2 _ _,p4,co,fun H3 s3=>?_⟩;refine⟨(by show 4<=sizeLine;decide),fun r nr=>⟨_,rfl,Nat.zero_le _,fun o no=>?_⟩⟩;have e1:(ws.map V.ref).length=s.1.length:=by rw[List.length_map,lw]
     have e2:(ks.map V.ref).length=s.2.length:=by rw[List.length_map,Paired.length S.cs]
     refine⟨0,r,o,[((s.1.length:Nat):Int),((s.2.length:Nat):Int),(((Wp.numP (Wp.partsP s.1.length s.2)).length:Nat):Int),((((Wp.numP (Wp.partsP s.1.length s.2)).filter (Wp.ringP (Wp.partsP s.1.length s.2) s.2)).length:Nat):Int)],[],rfl,?_,zc,by show 4<=100000;decide,by decide,fun H' q _ e=>k H' q ?_⟩
     ·rw[zd (zg zc no),zc,e1,e2];rfl
     ·rw[e,dw];rfl
  ·intro ea C fr dx σ' H6 live wt;rw[hwt1] at wt;obtain⟨Tb,hT,l1,l2⟩:=live;obtain⟨ls,d,q,F,n,ns,rfl,ro,ed,f1,f2,hq,hl',dw⟩:=wt;refine⟨true,ro.x,?_⟩;rw[if_pos rfl];have g:(σ'.set 2 (some (.ref ea)))[2]?=some (some (.ref ea)):=List.getElem?_set_self (by omega);exact⟨_,g,ea,C,d,q,fr,.ref Tb,F,n,ns,rfl,l1,zbc ed,ro.D,ro.nn,ro.nt,f1,f2,zbc hq,hl',fun H' p _ e=>k H' p (by rw[e,dw])⟩
end
theorem zqf (t:List Int):PyWqbnhd.sizes t=zdS (SiteNeutral.text t):=by
 show SiteNeutral.f [[9],t]=_;unfold SiteNeutral.f;show(let a:=BdSiteCalls.answer (.sizes (SiteNeutral.text t));a.ret::(a.nums.length:Int)::(a.nums++(a.bytes.length:Int)::a.bytes.map fun(b:UInt8)=>(b.toNat:Int)))=_;generalize SiteNeutral.text t=t;unfold zdS;have e:BdSiteCalls.answer (.sizes t)=if BdSiteCalls.TEXT<t.length then BdSiteCalls.BAD else(match Bd.judgeSite t with
  |.error f=>BdSiteCalls.FORM
  |.ok s=>BdSiteCalls.tells 0 [s.walls.length,s.corners.length,s.partsOf.length,s.rings.length]):=rfl
 rw[e];by_cases q:4096<t.length
 ·rw[if_pos q,if_pos (show BdSiteCalls.TEXT<t.length from q)];rfl
 ·rw[if_neg q,if_neg (show ¬BdSiteCalls.TEXT<t.length from q),zmp];unfold zeF;cases hr:Z7 yo zbz ([],[]) (fl 10 t) with
  |error f=>rfl
  |ok s =>
   dsimp only;have co:=zmx (t:=t) hr;have w4:s.1.length<=4:=zpA hr;obtain⟨f1,f2,_⟩:=Wp.fits_of w4 co;rw[<-f1,<-f2];show[0,4,(((s.1.map zZ).length:Nat):Int),((s.2.length:Nat):Int),(((Wp.partsA (s.1.map zZ).length s.2).length:Nat):Int),(((Wp.ringsA (s.1.map zZ).length s.2).length:Nat):Int),0]=_;rw[List.length_map]
theorem zqa {P:Program}{w:World}{K:PySem.W.Frag}{mg:Str->Option Value}{h:Heap}{fa:Addr}(KX:K.In h) (z:∃a:Ad,fa=a.zg2/\Txt K mg a/\∀(s:Shared) (us:List Value),us.length=(["u"]:List Str).length->BindsTo s a.zeb ⟨us,[]⟩ ((["u"]:List Str).zip us)) :
  ∃fd:FuncData,(∀(s:Shared) (us:List Value),us.length=(["u"]:List Str).length->BindsTo s fd ⟨us,[]⟩ ((["u"]:List Str).zip us))/\∀base:Heap,K.In base->base.Ns mainGlobals mg->FnOk P w K mg base (CXo P w) true 17 fa fd ["u"] (zjW K):=by
 obtain⟨a,rfl,T,b⟩:=z;exact⟨a.zeb,b,fun base _ _=>zov T⟩
end Wb
namespace PySem.W.Fast
def tw17476282673394327136:=()
def tw9383679793524475421:=()
def tw3843530788810195129:=()
def tw5707034728486169756:=()
def tw4441390289900750809:=()
def tw17174096055226955519:=()
def tw4226046765583608855:=()
def tw17904255800799276780:=()
def tw17272960963071171820:=()
def tw8254492155112406280:=()
def tw6307118492710856345:=()
def tw283842723297498746:=()
def tw18334836280085267710:=()
def tw1761381707891125156:=()
def tw14092941127460630238:=()
def tw10079044820568605405:=()
def tw6919184633423021535:=()
def tw3605815335683038673:=()
def tw5749556401194918085:=()
def tw12197034622763952064:=()
def tw11317694482913949498:=()
def tw13090165683620777418:=()
def tw4188952569025197672:=()
def tw16836899858627606347:=()
def tw8711638875608552527:=()
def tw17380098231447148824:=()
def tw2548018189896000805:=()
def tw16523113478130426355:=()
def tw5474639611353808714:=()
def tw12260746774908524421:=()
def tw8539132929191131896:=()
def tw15202357984182017887:=()
def tw14551651576395608938:=()
def tw13055910430487640419:=()
def tw18022581882426812207:=()
def tw775268450030782432:=()
def tw14446522483851540867:=()
def tw1956934673798934265:=()
def tw10074327649832905334:=()
def tw4114694582389534687:=()
def tw11430952404439263074:=()
def tw3259075067065528566:=()
def tw9551452199270201574:=()
def tw11841843815975373097:=()
def tw17607696919222641019:=()
def tw11589263194223430895:=()
def tw8465674593913752927:=()
def tw11116389113394569162:=()
def tw3039084272197558020:=()
def tw608251999402494652:=()
def tw1346274620876477548:=()
def tw16457818183987563385:=()
def tw685207008655538465:=()
def tw11148856484191064223:=()
def tw10866308804788384629:=()
def tw10484481522917623292:=()
def tw5790661540015212256:=()
def tw6223680389239356436:=()
def tw3302733854836213409:=()
def tw9148567084362574740:=()
def tw4687283160516053663:=()
def tw5930668176231261460:=()
def tw15751820404611651395:=()
def tw9369781711776578065:=()
def tw15016224925965001049:=()
def tw12501805249400041424:=()
def tw1326620513723259152:=()
def tw13369980779178522973:=()
def tw1753138646178596461:=()
def tw10510656667058095524:=()
def tw11382318471131674527:=()
def tw16256673503254541278:=()
def tw3616936544137521188:=()
def tw9818142434376881259:=()
def tw1271538404628700999:=()
def tw15579928039145434373:=()
def tw592914319263669595:=()
def tw6998489400030056271:=()
def tw3116895081943859:=()
def tw2570485771054084756:=()
def tw8642437144695369349:=()
def tw11178434417217414010:=()
def tw16637571550345943406:=()
def tw14699145016959944005:=()
def tw2750988693564252950:=()
def tw964404971447713146:=()
def tw8988194338138280236:=()
def tw3797620439365294594:=()
def tw4968096063984925246:=()
def tw14891727604893642791:=()
def tw10813493810135180486:=()
def tw9411702937579351907:=()
end PySem.W.Fast
open PySem PySem.W PyProof.Rows L2 Wb
set_option maxRecDepth 100000 in
set_option maxHeartbeats 0 in
theorem PySem.Challenge.cw_wallbonds_s09_sizes_holds : PySem.Challenge.rw_wallbonds_s09_sizes.Holds := by
 w_on;k_headS;(case hw=>exact⟨[.list []],by decide +kernel,by decide +kernel⟩)
 k_fillS
 refine L2.walk_specX (r:=PySem.Challenge.rw_wallbonds_s09_sizes) (cm:=true) (k:=17) (ps:=["u"]) (sp:=zjW) (by decide +kernel) rfl rfl ⟨fun _=>rfl,by decide,by decide⟩ (fun w h Y=>PySem.W.kIn_of Y) ?F ?S
 case F =>
  intro w mg fa h Y KX G hmg;refine zqa KX ?_;refine' txt_mk (a:=Ad.mk ..) hmg ⟨?e1,?e2,?e3,?e4,?e5,?e6,?e7,?e8,?e9,?e10,?e11,?e12,?e13,?e14,?e15,?e16,?e17,?e18,?e19,?e20,?e21,?e22,?e23,?e24,?e25,?e26,?e27,?e28,?e29,?e30,?e31,?e32,?e33,?e34,?e35,?e36,?e37,?e38,?e39,?e40,?e41,?e42,?e43,?e44,?e45,?e46,?e47,?e48,?e49,?e50,?e51,?e52,?e53,?e54,?e55,?e56,?e57,?e58,?e59,?e60,?e61,?e62,?e63,?e64,?e65,?e66,?e67,?e68,?e69,?e70,?e71,?e72,?e73,?e74,?e75,?e76,?e77,?e78,?e79,?e80,?e81,?e82,?e83,?e84,?e85,?e86,?e87,?e88,?e89,?e90,?e91,?e92,?e93,?e94,?e95,?e96,?e97,?e98,?e99,?e100,?e101,?e102,?e103,?e104,?e105,?e106,?e107,?e108,?e109,?e110,?e111,?e112,?e113,?e114,?e115,?e116,?e117,?e118,?e119,?e120,?e121,?e122,?e123,?e124,?e125,?e126,?e127,?e128,?e129,?e130,?e131,?e132,?e133,?e134,?e135,?e136,?e137,?e138,?e139,?e140,?e141,?e142,?e143,?e144,?e145,?e146,?e147,?e148,?e149⟩
  (case e5|e6|e7|e8|e9|e10=>dsimp only;refine' ⟨PySem.W.mg_of KX G ?_,⟨?_,?_,?_,?_⟩,?_,?_⟩ <;> k_is)
  (case e1|e2|e3|e4=>dsimp only;refine' ⟨PySem.W.mg_of KX G ?_,⟨?_,?_,?_,?_,?_⟩,⟨?_,?_⟩,?_,?_⟩ <;> first|k_is|kernel_rfl)
  (case e11|e12|e13|e14|e15|e16|e17|e18|e19|e20|e21|e22|e23|e24|e25|e26|e27|e28|e29|e30|e31|e32|e33|e34|e35|e36|e37|e38|e39=>dsimp only;apply FT.of KX G;k_is;k_is;k_is;k_is;first|exact(fun _ _ _ _ _ _ us hl=>match us,hl with|[_],_=>rfl)|exact(fun _ _ _ _ _ _ us hl=>match us,hl with|[_,_],_=>rfl)|exact(fun _ _ _ _ _ _ us hl=>match us,hl with|[_,_,_],_=>rfl)|exact(fun _ _ _ _ _ _ us hl=>match us,hl with|[_,_,_,_],_=>rfl))
  (case e40|e41|e42|e43|e44|e45|e46|e47|e48|e49|e50|e51|e52|e53|e54|e55|e56|e57|e58|e59|e60|e61|e62=>dsimp only;apply MT.of;k_is;k_is;k_is;k_is;k_is;first|exact(fun _ _ _ _ _ _ us hl=>match us,hl with|[_],_=>rfl)|exact(fun _ _ _ _ _ _ us hl=>match us,hl with|[_,_],_=>rfl)|exact(fun _ _ _ _ _ _ us hl=>match us,hl with|[_,_,_],_=>rfl)|exact(fun _ _ _ _ _ _ us hl=>match us,hl with|[_,_,_,_],_=>rfl))
  (case e63|e64|e65|e66|e67|e68|e69|e70|e71|e72|e73|e74|e75|e76|e77|e78|e79|e80|e81|e82|e83|e84|e85|e86|e87|e88|e89|e90|e91|e92=>dsimp only[NoAttr];k_is)
  (case e93=>dsimp only;refine' ⟨?_,?_,?_,?_⟩ <;> k_is)
  (case e94|e95|e96|e97|e98|e99|e100|e101=>dsimp only;kernel_rfl)
  (case e102|e103|e104|e105|e106|e107|e108|e109|e110|e111|e112|e113|e114|e115|e116|e117|e118|e119|e120|e121|e123|e124|e126|e127|e128|e129|e130|e131|e132|e133|e134|e136|e137|e138|e139=>dsimp only;refine' PySem.W.mg_of KX G ?_;k_is)
  (case e122|e125|e135=>dsimp only;apply zrt;k_is;exact⟨by decide +kernel,by repeat (first|exact .nil|refine .cons ⟨_,rfl⟩ ?_)⟩)
  (case e140|e141|e142|e143|e144|e145|e146|e147|e148=>refine' PySem.W.mg_none_of KX G ?_;k_is)
  (case e149=>dsimp only;exact fun s us hu=>match us,hu with|[_],_=>.of_eq rfl)
 case S =>
  intro K H xs a hO hwi hask hx;cases hx with
  |cons h0 hx1 =>
   cases hx1;cases h0 with
   |lst hs0 ha0 =>
    have e0:=L2.ints_dw a.1 _ ha0;subst e0;have q:((Codec.inLen 0 6000 a.1&&a.1.all (Codec.inInt 0 255))&&true)=true:=hwi;simp only[Bool.and_eq_true] at q;have hb0:∀x∈a.1,0<=x/\x<=255:=fun x hx=>Codec.inInt_iff.mp (List.all_eq_true.mp q.1.2 x hx);obtain⟨d0,l0⟩:=zpI a.1 hb0;rw[d0] at hs0;have m0:(SiteNeutral.text a.1).length<=6000:=by rw[l0];exact(Codec.inNat_iff.mp q.1.1).2
    refine⟨_,SiteNeutral.text a.1,rfl,hs0,m0,fun H' p hp=>?_⟩;show Dw _ H' (.ref p) (.list ((PyWqbnhd.sizes a.1).map WData.int));rw[zqf a.1];exact .lst (L2.SqL.of hp) (L2.dw_ints _)
#print axioms PySem.Challenge.cw_wallbonds_s09_sizes_holds
end
