import PyProof.Rows.All
import Wide.All
import OpenK.AllK
import Wide.FinOn
import Lean
import PyProof.EqAt
import PyProof.EqKinds
import PyProof.TupleCall
import PyProof.NeKinds
import PySem.SetOps
import PyProof.SetKind
import PyProof.TupleKey
import PyProof.IsRules
import PyProof.DictKinds
import KE.KSortAsk
import PyProof.Rows.SetFrom
import PyProof.Walks
import PyProof.CollectWalk
import KE.KSortTup
import KE.KDictSum
import KE.KDictList
import KE.KRevIter
import KE.KItemsList
import PyProof.Rows.ZipGen
import KE.KListMore
import PyProof.CompMap
import PyProof.DictFindH
import PyProof.AttrMissSeq
import PyProof.DictUpdate
import PyProof.ListNew
import PyProof.FactsAll.dict_1
import KE.KDictOf
import PyProof.Rows.DictSet
import PySem.Challenge.RW_glide_k17_whole_nothing_shared_is_left_o
set_option Elab.async false
set_option linter.all false
set_option maxRecDepth 100000
set_option maxHeartbeats 4000000
namespace L2
open PySem PySem.Spec PyProof.Rows
abbrev Key:=Sum Int Str
def wL:Key→Value→Bool
 |.inl k,v=>Value.isInt k v
 |.inr x,v=>Value.isStrOf x v
def FE(w:World):Key→Int
 |.inl k=>hashInt k
 |.inr x=>hashStr w x
theorem bN:∀{k:Key}{v:Value},wL k v=true→(∃i t,k=Sum.inl i∧v=Value.int i t)∨(∃x t,k=Sum.inr x∧v=Value.str x t)
 |.inl i,v,h=>by
  obtain⟨t,e⟩:=Value.isInt_shape (k:=i) (v:=v) h
  exact .inl ⟨i,t,rfl,e⟩
 |.inr x,v,h=>by
  obtain⟨t,e⟩:=Value.isStrOf_shape (x:=x) (v:=v) h
  exact .inr ⟨x,t,rfl,e⟩
theorem Cf(a b:Int):decide ((Sum.inl a:Key)=Sum.inl b)=(a==b):=by
 by_cases e:a=b
 ·subst e;simp
 ·have h:¬(Sum.inl a:Key)=Sum.inl b:=fun q=>e (Sum.inl.inj q)
  rw[decide_eq_false h]
  exact(beq_eq_false_iff_ne.mpr e).symm
theorem Ca(a b:Str):decide ((Sum.inr a:Key)=Sum.inr b)=decide (a=b):=by
 by_cases e:a=b
 ·subst e;simp
 ·have h:¬(Sum.inr a:Key)=Sum.inr b:=fun q=>e (Sum.inr.inj q)
  rw[decide_eq_false h,decide_eq_false e]
theorem Ce(a:Int)(b:Str):decide ((Sum.inl a:Key)=Sum.inr b)=false:=decide_eq_false (fun q=>nomatch q)
theorem Cb(a:Str)(b:Int):decide ((Sum.inr a:Key)=Sum.inl b)=false:=decide_eq_false (fun q=>nomatch q)
def oB(prog:Program)(w:World):PySem.KeyKind prog w Key where
 is:=wL
 hash:=FE w
 inj:=fun v a b ha hb=>by
  rcases bN ha with ⟨i,t,rfl,rfl⟩|⟨x,t,rfl,rfl⟩
  ·rcases bN hb with ⟨j,u,rfl,e⟩|⟨y,u,rfl,e⟩
   ·injection e with e1 _;rw[e1]
   ·exact nomatch e
  ·rcases bN hb with ⟨j,u,rfl,e⟩|⟨y,u,rfl,e⟩
   ·exact nomatch e
   ·injection e with e1 _;rw[e1]
 byValue:=fun k v h=>by
  rcases bN h with ⟨i,t,rfl,rfl⟩|⟨x,t,rfl,rfl⟩<;>rfl
 pyHash:=fun hv h=>by
  rcases bN hv with ⟨i,t,rfl,rfl⟩|⟨x,t,rfl,rfl⟩
  ·exact wpAny_pyHash_int h
  ·exact wpAny_pyHash_str h
 eqBool:=fun hu hv h=>by
  rcases bN hu with ⟨i,t,rfl,rfl⟩|⟨x,t,rfl,rfl⟩
  ·rcases bN hv with ⟨j,u,rfl,rfl⟩|⟨y,u,rfl,rfl⟩
   ·rw[Cf]at h;exact wpAny_eqBool_int h
   ·rw[Ce]at h;exact SeqAt.EqAt.int_str i t y u _ _ _ _ h
  ·rcases bN hv with ⟨j,u,rfl,rfl⟩|⟨y,u,rfl,rfl⟩
   ·rw[Cb]at h;exact SeqAt.EqAt.str_int x t j u _ _ _ _ h
   ·rw[Ca]at h;exact wpAny_eqBool_str h
 «strs»:=fun k x t v h=>by
  rcases bN h with ⟨i,u,rfl,e⟩|⟨y,u,rfl,e⟩
  ·exact nomatch e
  ·injection e with e1 _
   subst e1
   cases v<;>rfl
theorem BS(prog:Program)(w:World)(k:Key)(v:Value):(oB prog w).is k v=wL k v:=rfl
end L2
namespace L2
open PySem PySem.Spec PyProof.Rows
inductive V where
 |non|bl (b:Bool)|int (i:Int)|str (x:Str)|byt (b:Array UInt8)|flt (b:UInt64)|ref (a:Addr)|ty (n:String)
 deriving DecidableEq
def RelV:V→Value→Prop
 |.non,u=>u=Value.none
 |.bl b,u=>u=Value.bool b
 |.int i,u=>∃t,u=Value.int i t
 |.str x,u=>∃t,u=Value.str x t
 |.byt b,u=>∃t,u=Value.bytes b t
 |.flt b,u=>∃t,u=Value.float b t
 |.ref a,u=>u=Value.ref a
 |.ty n,u=>u=Value.type n
abbrev Vals:List V→List Value→Prop:=Paired RelV
theorem Vals.length{xs:List V}{us:List Value}(r:Vals xs us):xs.length=us.length:=Paired.length r
theorem Vals.get:∀{xs:List V}{us:List Value}{i:Nat}{x:V},Vals xs us→xs[i]? = some x→∃u,us[i]? = some u∧RelV x u
 |_,_,_,_,.nil,e=>by simp at e
 |_,_,0,_,.cons r _,e=>by simp at e;subst e;exact⟨_,rfl,r⟩
 |_,_,i+1,x,.cons _ t,e=>by
  obtain⟨u,h1,h2⟩:=Vals.get (i:=i) (x:=x) t (by simpa using e)
  exact⟨u,by simpa using h1,h2⟩
theorem Vals.append:∀{xs ys:List V}{us ws:List Value},Vals xs us→Vals ys ws→Vals (xs++ys) (us++ws)
 |_,_,_,_,.nil,s=>s
 |_,_,_,_,.cons r t,s=>.cons r (Vals.append t s)
theorem Vals.take:∀{xs:List V}{us:List Value}(n:Nat),Vals xs us→Vals (xs.take n) (us.take n)
 |_,_,0,_=>.nil
 |_,_,_+1,.nil=>.nil
 |_,_,n+1,.cons r t=>.cons r (Vals.take n t)
theorem Vals.drop:∀{xs:List V}{us:List Value}(n:Nat),Vals xs us→Vals (xs.drop n) (us.drop n)
 |_,_,0,r=>r
 |_,_,_+1,.nil=>.nil
 |_,_,n+1,.cons _ t=>Vals.drop n t
def Ag:Option V→Option Value→Prop
 |some v,some u=>RelV v u
 |none,none=>True
 |_,_=>False
def KV{κ:Type}:List (κ×V)→List (κ×Value)→Prop:=Paired fun (p:κ×V) (q:κ×Value)=>p.1=q.1∧RelV p.2 q.2
def kV:Key→V
 |.inl i=>.int i
 |.inr x=>.str x
inductive HO where
 |lst (xs:List V)
 |tup (xs:List V)
 |dK (kvs:List (Key×V))|dT (kvs:List (List Key×V))
 |set (S:Int→Bool) (n:Nat)
 |ins (C dx:Addr) (fs:List (Str×V))
 |own (x:Addr)
 |xd (fs:List (Str×V))
 |met (f x:Addr)
 |rng (lo hi:Int)
 |frz (o:Obj) (u:HO)
 |tbl (ps:Array Value)
 |ext (φ:Heap→Prop)
abbrev Hp:=Addr→Option HO
def upd(H:Hp)(a:Addr)(o:HO):Hp:=fun b=>if b=a then some o else H b
theorem aC{H:Hp}{a:Addr}{o:HO}:upd H a o a=some o:=by unfold upd;rw[if_pos rfl]
theorem aR{H:Hp}{a b:Addr}{o:HO}(h:b≠a):upd H a o b=H b:=by unfold upd;rw[if_neg h]
theorem bD{H:Hp}{a b:Addr}{o:HO}(h:H a=some o)(h':H b=none):a≠b:=by
 intro e;subst e;rw[h]at h';cases h'
section
variable (P:Program)(w:World)
def dy(H:Hp)(h:Heap)(a:Addr):HO→Prop
 |.lst xs=>xs.length≤sizeLine∧∃(its:List Value) (n:Nat),Vals xs its∧h.get? a=some { cls:=.type "list",data:=.seq its.toArray n }
 |.tup xs=>xs.length≤sizeLine∧∃its:List Value,Vals xs its∧IsTup h a its.toArray
 |.dK kvs=>kvs.length≤sizeLine∧(a==sysModules)=false∧∃vs,KV kvs vs∧h.DictOf (oB P w) a vs
 |.dT kvs=>kvs.length≤sizeLine∧(a==sysModules)=false∧∃xs:List (List Key×Addr×Value),
   Paired (fun (p:List Key×V) (q:List Key×Addr×Value)=>p.1=q.1∧H q.2.1=some (.tup (p.1.map kV))∧RelV p.2 q.2.2) kvs xs ∧
   ∃o es ep,h.get? a=some o∧o.ExactDict∧o.data=.dict es ep∧es.toList=xs.map (entryOfKey (tupleKind (oB P w)))∧(xs.map (·.1)).Nodup
 |.set S n=>h.SetOf (intKind P w) a S n
 |.ins C dx fs=>H dx=some (.own a)∧fs.length≤1000∧dx≠a∧h.get? a=some (PySem.W.instObj C dx) ∧
   ∃mA,h.Ns1 dx mA∧(∀f,Ag (fs.lookup f) (mA f))∧PySem.Within mA (fs.map (·.1))
 |.own _=>∃o,h.get? a=some o
 |.xd fs=>∃mA,h.Ns1 a mA∧∀f,Ag (fs.lookup f) (mA f)
 |.rng lo hi=>∃t u v,h.get? a=some { cls:=.type "range",data:=.fields #[.int lo t,.int hi u,.int 1 v] }
 |.frz o u=>h.get? a=some o∧dy H h a u
 |.tbl ps=>h.get? a=some { cls:=.none,data:=.fields ps }
 |.met f x=>h.get? a=some (PySem.W.methodObj (.ref f) (.ref x))
 |.ext φ=>φ h∧(∃o,h.get? a=some o)∧∀h1 h2:Heap,φ h1→(∀o,h1.get? a=some o→h2.get? a=some o)→φ h2
def HOk(H:Hp)(h:Heap):Prop:=∀a o,H a=some o→dy P w H h a o
end
section
variable {P:Program}{w:World}{H H':Hp}{h h':Heap}{a:Addr}{o:HO}
theorem dy.lt(x:dy P w H h a o):a<h.objs.size:=by
 cases o with
 |lst xs=>obtain⟨_,_,_,_,e⟩:=x;exact Heap.lt_size e
 |tup xs=>obtain⟨_,_,_,p⟩:=x;exact p.lt
 |dK kvs=>obtain⟨_,_,_,_,o,_,_,e,_⟩:=x;exact Heap.lt_size e
 |dT kvs=>obtain⟨_,_,_,_,o,_,_,e,_⟩:=x;exact Heap.lt_size e
 |set S n=>obtain⟨o,_,_,_,e,_⟩:=x;exact Heap.lt_size e
 |ins C dx fs=>obtain⟨_,_,_,e,_⟩:=x;exact Heap.lt_size e
 |own y=>obtain⟨_,e⟩:=x;exact Heap.lt_size e
 |xd fs=>obtain⟨_,⟨_,_,_,e,_⟩,_⟩:=x;exact Heap.lt_size e
 |rng lo hi=>obtain⟨_,_,_,e⟩:=x;exact Heap.lt_size e
 |frz ob u=>obtain⟨e,_⟩:=x;exact Heap.lt_size e
 |tbl ps=>exact Heap.lt_size (show h.get? a=some _ from x)
 |met f y=>exact Heap.lt_size (show h.get? a=some _ from x)
 |ext φ=>obtain⟨_,⟨_,e⟩,_⟩:=x;exact Heap.lt_size e
theorem Paired.mapP{α β:Type}{F G:α→β→Prop}:∀{l₁:List α}{l₂:List β},Paired F l₁ l₂→(∀a b,F a b→G a b)→Paired G l₁ l₂
 |_,_,.nil,_=>.nil
 |_,_,.cons r t,f=>.cons (f _ _ r) (Paired.mapP t f)
theorem dy.stay(x:dy P w H h a o)(k:∀b u,(b=a∨H b=some (.own a))→h.get? b=some u→h'.get? b=some u)
  (ho:∀b,H b=some (.own a)→H' b=some (.own a)) (ht:∀b xs,H b=some (.tup xs)→H' b=some (.tup xs)):dy P w H' h' a o:=by
 induction o with
 |lst xs=>obtain⟨z,its,n,r,e⟩:=x;exact⟨z,its,n,r,k _ _ (.inl rfl) e⟩
 |tup xs=>obtain⟨z,its,r,ob,e,c⟩:=x;exact⟨z,its,r,ob,k _ _ (.inl rfl) e,c⟩
 |dK kvs=>obtain⟨z,y,vs,r,ob,es,ep,e,c⟩:=x;exact⟨z,y,vs,r,ob,es,ep,k _ _ (.inl rfl) e,c⟩
 |dT kvs=>
  obtain⟨z,y,xs,r,ob,es,ep,e,c⟩:=x
  exact⟨z,y,xs,Paired.mapP r fun p q z=>⟨z.1,ht _ _ z.2.1,z.2.2⟩,ob,es,ep,k _ _ (.inl rfl) e,c⟩
 |set S n=>obtain⟨ob,es,ep,t,e,c⟩:=x;exact⟨ob,es,ep,t,k _ _ (.inl rfl) e,c⟩
 |ins C dx fs=>
  obtain⟨d,z,ne,e,mA,⟨od,es,ep,e2,c⟩,r⟩:=x
  exact⟨ho _ d,z,ne,k _ _ (.inl rfl) e,mA,⟨od,es,ep,k _ _ (.inr d) e2,c⟩,r⟩
 |own y=>obtain⟨ob,e⟩:=x;exact⟨ob,k _ _ (.inl rfl) e⟩
 |xd fs=>obtain⟨mA,⟨od,es,ep,e,c⟩,r⟩:=x;exact⟨mA,⟨od,es,ep,k _ _ (.inl rfl) e,c⟩,r⟩
 |rng lo hi=>obtain⟨t,u,v,e⟩:=x;exact⟨t,u,v,k _ _ (.inl rfl) e⟩
 |frz ob u ih=>obtain⟨e,q⟩:=x;exact⟨k _ _ (.inl rfl) e,ih q⟩
 |tbl ps=>
  have e:h.get? a=some { cls:=.none,data:=.fields ps }:=x
  show h'.get? a=some { cls:=.none,data:=.fields ps }
  exact k a _ (.inl rfl) e
 |met f y=>
  have e:h.get? a=some (PySem.W.methodObj (.ref f) (.ref y)):=x
  show h'.get? a=some (PySem.W.methodObj (.ref f) (.ref y))
  exact k a _ (.inl rfl) e
 |ext φ=>obtain⟨p,⟨o,e⟩,st⟩:=x;exact⟨st _ _ p fun o q=>k _ _ (.inl rfl) q,⟨o,k _ _ (.inl rfl) e⟩,st⟩
theorem HOk.lt(x:HOk P w H h)(e:H a=some o):a<h.objs.size:=(x a o e).lt
theorem HOk.fresh(x:HOk P w H h)(e:h.objs.size≤a):H a=none:=by
 cases q:H a with
 |none=>rfl
 |some u=>exact absurd (Nat.lt_of_lt_of_le (x.lt q) e) (Nat.lt_irrefl _)
theorem HOk.kept(x:HOk P w H h)(k:∀b u,h.get? b=some u→h'.get? b=some u):HOk P w H h':=fun a o e=>
 (x a o e).stay (fun b u _ q=>k b u q) (fun _ q=>q) fun _ _ q=>q
theorem HOk.laid(x:HOk P w H h)(k:∀b u,h.get? b=some u→h'.get? b=some u)(hp:h.objs.size≤a)(new:dy P w (upd H a o) h' a o):HOk P w (upd H a o) h':=fun b u e=>by
 have hn:=x.fresh hp
 by_cases hb:b=a
 ·subst hb;rw[aC]at e;cases e;exact new
 ·rw[aR hb]at e
  exact(x b u e).stay (fun c v _ q=>k c v q) (fun c q=>by rw[aR (bD q hn)];exact q) fun c xs q=>by rw[aR (bD q hn)];exact q
end
def Rd(H:Hp)(a:Addr)(u:HO):Prop:=H a=some u∨∃o,H a=some (.frz o u)
theorem Rd.ok{P:Program}{w:World}{H:Hp}{h:Heap}{a:Addr}{u:HO}(r:Rd H a u)(x:HOk P w H h):dy P w H h a u:=by
 rcases r with r|⟨o,r⟩
 ·exact x a u r
 ·obtain⟨_,q⟩:=x a _ r
  exact q
def Mut:Option HO→Prop
 |some (.lst _)=>True
 |some (.dK _)=>True
 |some (.dT _)=>True
 |some (.set _ _)=>True
 |some (.ins _ _ _)=>True
 |some (.ext _)=>True
 |_=>False
section
variable {P:Program}{w:World}{H:Hp}{h h':Heap}{x e:Addr}{o':HO}
theorem HOk.write(ok:HOk P w H h)(mu:Mut (H x))(he:e=x∨H e=some (.own x))(k:∀b u,b≠e→h.get? b=some u→h'.get? b=some u)(heo:∃u,h'.get? e=some u)
  (new:dy P w (upd H x o') h' x o'):HOk P w (upd H x o') h':=fun b u q=>by
 have nown:∀c y,H c=some (.own y)→c≠x:=fun c y r z=>by subst z;rw[r]at mu;exact mu
 have ntup:∀c xs,H c=some (.tup xs)→c≠x:=fun c xs r z=>by subst z;rw[r]at mu;exact mu
 by_cases hb:b=x
 ·subst hb;rw[aC]at q;cases q;exact new
 ·rw[aR hb]at q
  by_cases hbe:b=e
  ·have q':H b=some (.own x):=by
    rcases he with z|z
    ·exact absurd (hbe.trans z) hb
    ·rw[hbe];exact z
   rw[q]at q';cases q'
   obtain⟨v,hv⟩:=heo
   exact⟨v,by rw[hbe];exact hv⟩
  ·refine(ok b u q).stay (fun c v hc r=>k c v ?_ r) (fun c r=>by rw[aR (nown c b r)];exact r) fun c xs r=>by rw[aR (ntup c xs r)];exact r
   rcases hc with rfl|hc
   ·exact hbe
   ·rintro rfl
    rcases he with z|z
    ·exact nown c b hc z
    ·rw[hc]at z;cases z;exact hb rfl
end
structure Un (fs ex:List Addr) (H H':Hp) (h h':Heap):Prop where
 keep:∀b o,h.get? b=some o→H b=none→b∉fs→b∉ex→h'.get? b=some o
 slot:∀b o,h.get? b=some o→H b=none→b∈fs→b∉ex→∃sl,h'.get? b=some { o with slots:=sl }
 free:∀b o,h.get? b=some o→H b=none→b∉ex→H' b=none
 there:∀b o,h.get? b=some o→b∉ex→∃o',h'.get? b=some o'
 tups:∀b xs,H b=some (.tup xs)→H' b=some (.tup xs)
 frzs:∀b o u,H b=some (.frz o u)→H' b=some (.frz o u)
 tbls:∀b ps,H b=some (.tbl ps)→∃more,H' b=some (.tbl (ps++more))
section
variable {fs fs' ex ex':List Addr}{H H1 H2:Hp}{h h1 h2 h':Heap}{a x e:Addr}{o:HO}
theorem Un.any(u:Un fs ex H H1 h h1){b:Addr}{ob:Obj}(q:h.get? b=some ob)(n:H b=none)(hx:b∉ex):∃sl,h1.get? b=some { ob with slots:=sl }:=by
 by_cases hb:b∈fs
 ·exact u.slot b ob q n hb hx
 ·exact⟨ob.slots,u.keep b ob q n hb hx⟩
theorem Un.kept(k:∀b u,h.get? b=some u→h'.get? b=some u):Un fs ex H H h h':=
 ⟨fun b ob q _ _ _=>k b ob q,fun b ob q _ _ _=>⟨ob.slots,k b ob q⟩,fun _ _ _ n _=>n,fun b ob q _=>⟨ob,k b ob q⟩,fun _ _ q=>q,fun _ _ _ q=>q,fun _ ps q=>⟨#[],by rw[q];simp⟩⟩
theorem Un.refl:Un fs ex H H h h:=Un.kept fun _ _ q=>q
theorem Un.laid(k:∀b u,h.get? b=some u→h'.get? b=some u)(hp:h.objs.size≤a)(hn:H a=none):Un fs ex H (upd H a o) h h' where
 keep:=fun b u q _ _ _=>k b u q
 slot:=fun b u q _ _ _=>⟨u.slots,k b u q⟩
 free:=fun b u q n _=>by rw[aR (Nat.ne_of_lt (Nat.lt_of_lt_of_le (Heap.lt_size q) hp))];exact n
 there:=fun b u q _=>⟨u,k b u q⟩
 tups:=fun b xs q=>by rw[aR (bD q hn)];exact q
 frzs:=fun b u xs q=>by rw[aR (bD q hn)];exact q
 tbls:=fun b ps q=>⟨#[],by rw[aR (bD q hn),q];simp⟩
theorem Un.write(mu:Mut (H x))(he:e=x∨H e=some (.own x))(k:∀b u,b≠e→h.get? b=some u→h'.get? b=some u)(heo:∃u,h'.get? e=some u):Un fs ex H (upd H x o) h h':=by
 have hx:∀b,H b=none→b≠x:=fun b n z=>by subst z;rw[n]at mu;exact mu
 have hb:∀b,H b=none→b≠e:=fun b n z=>by
  subst z
  rcases he with r|r
  ·exact hx b n r
  ·rw[n]at r;cases r
 have hm:∀b u,H b=some u→¬Mut (some u)→b≠x:=fun b u q nm z=>by subst z;rw[q]at mu;exact nm mu
 refine⟨fun b u q n _ _=>k b u (hb b n) q,fun b u q n _ _=>⟨u.slots,k b u (hb b n) q⟩,fun b u q n _=>by rw[aR (hx b n)];exact n,fun b u q _=>?_,
  fun b xs q=>by rw[aR (hm b _ q fun z=>z)];exact q,fun b u xs q=>by rw[aR (hm b _ q fun z=>z)];exact q,fun b ps q=>⟨#[],by rw[aR (hm b _ q fun z=>z),q];simp⟩⟩
 by_cases hbe:b=e
 ·subst hbe;exact heo
 ·exact⟨u,k b u hbe q⟩
end
def trk(h:Heap)(H:Hp):List Addr:=(List.range h.objs.size).filter fun a=>(H a).isSome
def oP(h:Heap)(H:Hp):Heap:=PySem.W.hideAll h (trk h H)
theorem uI(h:Heap)(H:Hp):(oP h H).objs.size=h.objs.size:=PySem.W.hideAll_size _ _
theorem xg{h:Heap}{H:Hp}{b:Addr}{o:Obj}(e:h.get? b=some o)(n:H b=none):(oP h H).get? b=some o:=
 PySem.W.hideAll_get _ e fun hm=>by
  have q:(H b).isSome=true:=(List.mem_filter.mp hm).2
  rw[n]at q;simp at q
theorem zj{h:Heap}{H:Hp}{b:Addr}{o:Obj}(e:(oP h H).get? b=some o):h.get? b=some o∧H b=none:=by
 have e':h.get? b=some o:=PySem.W.of_hideAll (trk h H) e
 refine⟨e',?_⟩
 cases q:H b with
 |none=>rfl
 |some x=>
  have hm:b∈trk h H:=List.mem_filter.mpr ⟨List.mem_range.mpr (Heap.lt_size e'),by simp[q]⟩
  have z:(oP h H).get? b=none:=PySem.W.hideAll_none (trk h H) hm
  rw[z]at e;cases e
end L2
namespace L2
open PySem PySem.Spec PyProof.Rows
structure Mod (K:PySem.W.Frag) (mg:Str→Option Value) (base:Heap):Prop where
 kin:K.In base
 glob:base.Ns mainGlobals mg
 blt:∃mb,base.Ns builtinsNs mb∧∀x:Str,x≠"__name__"→mb x=bootBuiltins x
 nolimit:base.NoLimit
structure Cx where
 prog:Program
 w:World
 K:PySem.W.Frag
 mg:Str→Option Value
 base:Heap
 A:Around
 N:List Str
 s₀:Shared
 H₀:Hp
 env:Env
 outer:List Env
 stack:List Env
 ex:List Addr
 fn:Str→Bool
 calm:Bool
 pn:List (Addr×Obj)
 xe:Value→Shared→Prop
def frs(l:List Env):List Addr:=l.filterMap (·.frame)
abbrev Cx.fs(X:Cx):List Addr:=frs X.outer
def Vis(sc:Scope)(x:Str):Prop:=sc.names.lookup x=some .local∨sc.names.lookup x=some .cell∨sc.names.lookup x=some .free
def Loc(sc:Scope)(x:Str):Prop:=sc.names.lookup x=some .local∨sc.names.lookup x=some .cell
def Look(env:Env)(h:Heap)(m:Str→Option Value)(x:Str)(u:Value):Prop:=
 (env.kindOf x=some .local∧m x=some u)∨((env.kindOf x=some .cell∨env.kindOf x=some .free)∧∃c,env.cells.lookup x=some c∧h.IsCell c (some u))
structure Cx.Ok (X:Cx):Prop where
 mod:Mod X.K X.mg X.base
 kind:X.env.scope.kind=.function
 glob:X.env.globals=mainGlobals
 blt:X.env.builtins=builtinsNs
 above:X.s₀.heap.objs.size≤X.env.locals
 inj:∀x y c,X.env.cells.lookup x=some c→X.env.cells.lookup y=some c→x=y
 has:∀x,(X.env.kindOf x=some .cell∨X.env.kindOf x=some .free)→∃c,X.env.cells.lookup x=some c
 cab:∀x c,X.fn x=true→X.env.cells.lookup x=some c→X.s₀.heap.objs.size≤c
 hd:X.calm=true→X.A.handled=none
 frames:X.A.frames=some X.stack
 stk:X.stack=X.outer∨(X.stack=X.env::X.outer∧X.env.frame=some X.env.locals)
 exf:∀b∈X.ex,b≠X.env.locals∧∀x c,X.env.cells.lookup x=some c→c≠b
 bs:∀b o,X.base.get? b=some o→X.s₀.heap.get? b=some o∧X.H₀ b=none
 bsz:X.base.objs.size≤X.s₀.heap.objs.size
 noex:∀b o,X.base.get? b=some o→b∉X.ex
 exfs:∀b∈X.ex,b∉X.fs
 funs:X.s₀.heap.FunFrames X.base X.outer
 frf:∀b∈X.fs,X.H₀ b=none
structure Inv (X:Cx) (pins:List (Addr×Obj)) (σ:List (Option V)) (H:Hp) (s:Shared):Prop where
 ok:X.Ok
 os:s.os=X.s₀.os
 bare:AllBare s.gens
 base:Un X.fs X.ex X.H₀ H X.s₀.heap s.heap
 loc:∃m,s.heap.Ns X.env.locals m∧∀(i:Nat)(x:Str)(v:V),X.N[i]? = some x→σ[i]? = some (some v)→Vis X.env.scope x→∃u,RelV v u∧Look X.env s.heap m x u
 cell:∀x c,X.env.cells.lookup x=some c→∃v,s.heap.IsCell c v
 free:H X.env.locals=none
 freeC:∀x c,X.env.cells.lookup x=some c→H c=none
 pin:∀p∈X.pn++pins,s.heap.get? p.1=some p.2∧H p.1=none∧p.1≠X.env.locals∧p.1∉X.fs∧∀v,p.2.data≠.cell v
 hok:HOk X.prog X.w H s.heap
 len:σ.length=X.N.length
section
variable {X:Cx}{pins:List (Addr×Obj)}{σ:List (Option V)}{H H':Hp}{s:Shared}{h':Heap}
theorem Cx.Ok.nofr(ok:X.Ok){b:Addr}{o:Obj}(e:X.base.get? b=some o):b∉X.fs:=fun hb=>by
 have:=(ok.funs.mem hb).1
 rw[e]at this;cases this
theorem Inv.bs(I:Inv X pins σ H s):∀b o,X.base.get? b=some o→s.heap.get? b=some o∧H b=none:=fun b o e=>
 ⟨I.base.keep b o (I.ok.bs b o e).1 (I.ok.bs b o e).2 (I.ok.nofr e) (I.ok.noex b o e),I.base.free b o (I.ok.bs b o e).1 (I.ok.bs b o e).2 (I.ok.noex b o e)⟩
theorem Inv.bk(I:Inv X pins σ H s):∀b o,X.base.get? b=some o→s.heap.get? b=some o:=fun b o e=>(I.bs b o e).1
theorem Inv.mod(I:Inv X pins σ H s):Mod X.K X.mg X.base:=I.ok.mod
theorem Inv.kIn(I:Inv X pins σ H s):X.K.In s.heap:=I.ok.mod.kin.keeps I.bk
theorem Inv.lt(I:Inv X pins σ H s):X.env.locals<s.heap.objs.size:=let⟨_,hn,_⟩:=I.loc;hn.lt
theorem Inv.sz(I:Inv X pins σ H s):X.s₀.heap.objs.size≤s.heap.objs.size:=Nat.le_trans I.ok.above (Nat.le_of_lt I.lt)
theorem Inv.nofs(I:Inv X pins σ H s){a:Addr}(h:s.heap.objs.size≤a):a∉X.fs:=fun hb=>by
 obtain⟨_,o,ho,_⟩:=I.ok.funs.mem hb
 exact absurd (Nat.lt_of_lt_of_le (Heap.lt_size ho) (Nat.le_trans I.sz h)) (Nat.lt_irrefl _)
theorem Inv.cne(I:Inv X pins σ H s):∀x c,X.env.cells.lookup x=some c→c≠X.env.locals:=fun x c e z=>by
 obtain⟨v,o,ho,hd⟩:=I.cell x c e
 obtain⟨m,⟨o',es,ep,ho',hd',_⟩,_⟩:=I.loc
 rw[z,ho']at ho;cases ho;rw[hd']at hd;cases hd
theorem Inv.funs(I:Inv X pins σ H s):s.heap.FunFrames X.base X.outer:=by
 have all:∀(l:List Env),(∀b∈frs l,b∈X.fs)→X.s₀.heap.FunFrames X.base l→s.heap.FunFrames X.base l:=by
  intro l
  induction l with
  |nil=>intro _ _;trivial
  |cons env r ih=>
   intro hs hl
   obtain⟨hk,⟨L,o,hf,hn,ho,hd⟩,hr⟩:=hl
   have hL:L∈X.fs:=hs L (by unfold frs;rw[List.filterMap_cons,hf];exact List.mem_cons_self)
   obtain⟨sl,e⟩:=I.base.slot L o ho (I.ok.frf L hL) hL fun z=>I.ok.exfs L z hL
   exact⟨hk,⟨L,_,hf,hn,e,hd⟩,ih (fun b hb=>hs b (by unfold frs;rw[List.filterMap_cons,hf];exact List.mem_cons_of_mem _ hb)) hr⟩
 exact all X.outer (fun _ hb=>hb) I.ok.funs
theorem Inv.stack(I:Inv X pins σ H s):s.heap.FunFrames X.base X.stack:=by
 rcases I.ok.stk with e|⟨e,hf⟩
 ·rw[e];exact I.funs
 ·rw[e]
  obtain⟨m,hn,_⟩:=I.loc
  refine .cons (by rw[I.ok.kind];decide) hf hn ?_ I.funs
  exact Heap.get?_none_of_le (Nat.le_trans I.ok.bsz I.ok.above)
theorem Inv.stkSub(I:Inv X pins σ H s):∀b∈frs X.stack,b∈X.env.locals::X.fs:=fun b hb=>by
 rcases I.ok.stk with e|⟨e,hf⟩
 ·rw[e]at hb;exact List.mem_cons_of_mem _ hb
 ·rw[e]at hb
  unfold frs at hb
  rw[List.filterMap_cons,hf]at hb
  exact hb
theorem Inv.stkFree(I:Inv X pins σ H s):∀b∈frs X.stack,H b=none:=fun b hb=>by
 rcases List.mem_cons.mp (I.stkSub b hb) with e|hb
 ·rw[e];exact I.free
 ·obtain⟨_,o,ho,_⟩:=I.ok.funs.mem hb
  exact I.base.free b o ho (I.ok.frf b hb) fun z=>I.ok.exfs b z hb
theorem Inv.step{g':Array GenState}{t':Nat}{d':Drawn}{ch:List Addr}(I:Inv X pins σ H s)
  (hch:∀b∈ch,(b∈X.ex∨X.s₀.heap.objs.size≤b)∧b≠X.env.locals∧(∀x c,X.env.cells.lookup x=some c→c≠b)∧∀p∈X.pn++pins,p.1≠b)
  (keep:∀b o,b≠X.env.locals→b∉X.fs→b∉ch→s.heap.get? b=some o→H b=none→h'.get? b=some o)
  (slot:∀b o,b≠X.env.locals→b∈X.fs→b∉ch→s.heap.get? b=some o→H b=none→∃sl,h'.get? b=some { o with slots:=sl }) (free:∀b o,b∉ch→s.heap.get? b=some o→H b=none→H' b=none)
  (there:∀b o,b∉ch→s.heap.get? b=some o→∃o',h'.get? b=some o')
  (tups:∀b xs,H b=some (.tup xs)→H' b=some (.tup xs)) (frzs:∀b o u,H b=some (.frz o u)→H' b=some (.frz o u)) (tbls:∀b ps,H b=some (.tbl ps)→∃more,H' b=some (.tbl (ps++more)))
  (ns:∀m,s.heap.Ns X.env.locals m→h'.Ns X.env.locals m) (hok:HOk X.prog X.w H' h') (hg:AllBare g'):
  Inv X pins σ H' { s with heap:=h',gens:=g',drawn:=d',toks:=t' }:=by
 have neL:∀b o,X.s₀.heap.get? b=some o→b≠X.env.locals:=fun b o e=>Nat.ne_of_lt (Nat.lt_of_lt_of_le (Heap.lt_size e) I.ok.above)
 have neC:∀b o,X.s₀.heap.get? b=some o→b∉X.ex→b∉ch:=fun b o e hx hb=>by
  rcases(hch b hb).1 with z|z
  ·exact hx z
  ·exact absurd (Nat.lt_of_lt_of_le (Heap.lt_size e) z) (Nat.lt_irrefl _)
 have cellK:∀x c,X.env.cells.lookup x=some c→∀v,s.heap.IsCell c v→h'.IsCell c v:=fun x c e v ⟨o,ho,hd⟩=>by
  have nch:c∉ch:=fun z=>(hch c z).2.2.1 x c e rfl
  by_cases hc:c∈X.fs
  ·obtain⟨sl,q⟩:=slot c o (I.cne x c e) hc nch ho (I.freeC x c e)
   exact⟨_,q,hd⟩
  ·exact⟨o,keep c o (I.cne x c e) hc nch ho (I.freeC x c e),hd⟩
 refine⟨I.ok,I.os,hg,⟨fun b o e n hb hx=>?_,fun b o e n hb hx=>?_,fun b o e n hx=>?_,fun b o e hx=>?_,fun b xs e=>tups b xs (I.base.tups b xs e),fun b o xs e=>frzs b o xs (I.base.frzs b o xs e),fun b ps e=>?_⟩,?_,fun x c e=>?_,?_,fun x c e=>?_,fun p hp=>?_,hok,I.len⟩
 ·exact keep b o (neL b o e) hb (neC b o e hx) (I.base.keep b o e n hb hx) (I.base.free b o e n hx)
 ·obtain⟨sl,e1⟩:=I.base.slot b o e n hb hx
  obtain⟨sl',e2⟩:=slot b _ (neL b o e) hb (neC b o e hx) e1 (I.base.free b o e n hx)
  exact⟨sl',e2⟩
 ·obtain⟨o',e1⟩:=I.base.there b o e hx
  exact free b o' (neC b o e hx) e1 (I.base.free b o e n hx)
 ·obtain⟨o',e1⟩:=I.base.there b o e hx
  exact there b o' (neC b o e hx) e1
 ·obtain⟨m1,e1⟩:=I.base.tbls b ps e
  obtain⟨m2,e2⟩:=tbls b _ e1
  exact⟨m1++m2,by rw[e2,Array.append_assoc]⟩
 ·obtain⟨m,hn,hl⟩:=I.loc
  refine⟨m,ns m hn,fun i x v e1 e2 e3=>?_⟩
  obtain⟨u,r,l⟩:=hl i x v e1 e2 e3
  refine⟨u,r,?_⟩
  rcases l with l|⟨k,c,e,z⟩
  ·exact .inl l
  ·exact .inr ⟨k,c,e,cellK x c e _ z⟩
 ·obtain⟨v,z⟩:=I.cell x c e
  exact⟨v,cellK x c e v z⟩
 ·obtain⟨m,⟨o,_,_,ho,_⟩,_⟩:=I.loc
  exact free _ o (fun z=>(hch _ z).2.1 rfl) ho I.free
 ·obtain⟨v,o,ho,hd⟩:=I.cell x c e
  exact free c o (fun z=>(hch c z).2.2.1 x c e rfl) ho (I.freeC x c e)
 ·obtain⟨e,n,ne,nf,d⟩:=I.pin p hp
  have nch:p.1∉ch:=fun z=>(hch p.1 z).2.2.2 p hp rfl
  exact⟨keep p.1 p.2 ne nf nch e n,free p.1 p.2 nch e n,ne,nf,d⟩
theorem Inv.un{t':Nat}(I:Inv X pins σ H s)(u:Un X.fs [] H H' s.heap h')(hok:HOk X.prog X.w H' h'):Inv X pins σ H' { s with heap:=h',toks:=t' }:=by
 obtain⟨m,⟨o,es,ep,ho,r⟩,_⟩:=id I.loc
 obtain⟨sl,hL⟩:=u.any ho I.free (by simp)
 exact I.step (g':=s.gens) (d':=s.drawn) (ch:=[]) (fun _ z=>nomatch z) (fun b o _ hb _ e n=>u.keep b o e n hb (by simp)) (fun b o _ hb _ e n=>u.slot b o e n hb (by simp)) (fun b o _ e n=>u.free b o e n (by simp)) (fun b o _ e=>u.there b o e (by simp)) u.tups u.frzs u.tbls (fun m' hm=>by
  obtain⟨o',es',ep',ho',r'⟩:=hm
  rw[ho]at ho';cases ho'
  exact⟨_,es',ep',hL,r'⟩) hok I.bare
theorem Inv.call{g':Array GenState}{t':Nat}{d':Drawn}{ch:List Addr}(I:Inv X pins σ H s)(u:Un (frs X.stack) ch H H' s.heap h')(hok:HOk X.prog X.w H' h')(hg:AllBare g')
  (hch:∀b∈ch,(b∈X.ex∨X.s₀.heap.objs.size≤b)∧b≠X.env.locals∧(∀x c,X.env.cells.lookup x=some c→c≠b)∧∀p∈X.pn++pins,p.1≠b):
  Inv X pins σ H' { s with heap:=h',gens:=g',drawn:=d',toks:=t' }:=by
 obtain⟨m,⟨o,es,ep,ho,r⟩,_⟩:=id I.loc
 obtain⟨sl,hL⟩:=u.any ho I.free fun z=>(hch _ z).2.1 rfl
 exact I.step (ch:=ch) hch (fun b o hL hb hc e n=>u.keep b o e n (fun z=>(List.mem_cons.mp (I.stkSub b z)).elim hL hb) hc) (fun b o _ _ hc e n=>u.any e n hc) (fun b o hc e n=>u.free b o e n hc) (fun b o hc e=>u.there b o e hc) u.tups u.frzs u.tbls (fun m' hm=>by
  obtain⟨o',es',ep',ho',r'⟩:=hm
  rw[ho]at ho';cases ho'
  exact⟨_,es',ep',hL,r'⟩) hok hg
theorem Inv.turned{t':Nat}{it:Addr}(I:Inv X pins σ H s)(k:∀b o,b≠it→s.heap.get? b=some o→h'.get? b=some o)(hn:H it=none)(hL:it≠X.env.locals)
  (h1:it∈X.ex∨X.s₀.heap.objs.size≤it) (h2:∀x c,X.env.cells.lookup x=some c→c≠it) (h3:∀p∈X.pn++pins,p.1≠it):Inv X pins σ H { s with heap:=h',toks:=t' }:=by
 have nit:∀b u,H b=some u→b≠it:=fun b u e z=>by rw[z,hn]at e;cases e
 refine I.step (g':=s.gens) (d':=s.drawn) (ch:=[it]) (fun b hb=>?_) (fun b o _ _ hc e _=>k b o (fun z=>hc (by simp[z])) e) (fun b o _ _ hc e _=>⟨o.slots,k b o (fun z=>hc (by simp[z])) e⟩) (fun _ _ _ _ n=>n)
  (fun b o hc e=>⟨o,k b o (fun z=>hc (by simp[z])) e⟩) (fun _ _ e=>e) (fun _ _ _ e=>e) (fun b ps e=>⟨#[],by rw[e];simp⟩) (fun m hm=>?_) (fun b u e=>?_) I.bare
 ·have e:b=it:=by simpa using hb
  subst e
  exact⟨h1,hL,h2,h3⟩
 ·obtain⟨o,es,ep,ho,r⟩:=hm
  exact⟨o,es,ep,k _ o (Ne.symm hL) ho,r⟩
 ·refine(I.hok b u e).stay (fun c v hc q=>k c v ?_ q) (fun _ q=>q) fun _ _ q=>q
  rcases hc with z|z
  ·rw[z];exact nit b u e
  ·exact nit c _ z
theorem Inv.tok(I:Inv X pins σ H s)(t:Nat):Inv X pins σ H { s with toks:=t }:=I.un (h':=s.heap) (t':=t) Un.refl I.hok
theorem Inv.kept{t':Nat}(I:Inv X pins σ H s)(k:∀b u,s.heap.get? b=some u→h'.get? b=some u):Inv X pins σ H { s with heap:=h',toks:=t' }:=I.un (Un.kept k) (I.hok.kept k)
theorem Inv.laid{a:Addr}{o:HO}{t':Nat}(I:Inv X pins σ H s)(k:∀b u,s.heap.get? b=some u→h'.get? b=some u)(hp:s.heap.objs.size≤a)(new:dy X.prog X.w (upd H a o) h' a o):
  Inv X pins σ (upd H a o) { s with heap:=h',toks:=t' }:=I.un (Un.laid k hp (I.hok.fresh hp)) (I.hok.laid k hp new)
theorem Inv.write{x e:Addr}{o:HO}{t':Nat}(I:Inv X pins σ H s)(mu:Mut (H x))(he:e=x∨H e=some (.own x))(k:∀b u,b≠e→s.heap.get? b=some u→h'.get? b=some u)(heo:∃u,h'.get? e=some u)
  (new:dy X.prog X.w (upd H x o) h' x o):Inv X pins σ (upd H x o) { s with heap:=h',toks:=t' }:=I.un (Un.write mu he k heo) (I.hok.write mu he k heo new)
theorem Inv.pins_of{pins':List (Addr×Obj)}(I:Inv X pins σ H s)(h:∀p∈pins',s.heap.get? p.1=some p.2∧H p.1=none∧p.1≠X.env.locals∧p.1∉X.fs∧∀v,p.2.data≠.cell v):Inv X pins' σ H s:=
 ⟨I.ok,I.os,I.bare,I.base,I.loc,I.cell,I.free,I.freeC,fun p hp=>(List.mem_append.mp hp).elim (fun z=>I.pin p (List.mem_append_left _ z)) (h p),I.hok,I.len⟩
theorem p5{N:List Str}(hN:N.Nodup){i j:Nat}{x:Str}(a:N[i]? = some x)(b:N[j]? = some x):i=j:=by
 obtain⟨h1,e1⟩:=List.getElem?_eq_some_iff.mp a
 obtain⟨h2,e2⟩:=List.getElem?_eq_some_iff.mp b
 exact(List.getElem_inj hN).mp (e1.trans e2.symm)
theorem tN{M:Model}{A:Around}{E:Value→Shared→Prop}{i:Nat}{x:Str}{v:V}{u:Value}{Q:Unit→Shared→Prop}(I:Inv X pins σ H s)(hN:X.N.Nodup)(hi:X.N[i]? = some x)(hx:Loc X.env.scope x)(r:RelV v u)
  (h:∀s',Inv X pins (σ.set i (some v)) H s'→(∃a,Heap.SameBut a s.heap s'.heap∧(a=X.env.locals∨X.env.cells.lookup x=some a))→Q () s') (hf:X.fn x=true∨X.env.scope.names.lookup x=some .local:=by first|exact .inl rfl|exact .inr rfl|assumption):wpAny M A (storeName X.env x u) Q E s:=by
 obtain⟨m,hn,hl⟩:=id I.loc
 have hcls:(X.env.scope.kind==.class||(X.env.scope.kind==.module&&X.env.locals != X.env.globals))=false:=by rw[I.ok.kind];rfl
 have hiσ:i<σ.length:=by rw[I.len];exact(List.getElem?_eq_some_iff.mp hi).1
 have cne:=I.cne
 have tracked:∀{a:Addr}{h':Heap},(∃o,s.heap.get? a=some o∧H a=none)→Heap.SameBut a s.heap h'→HOk X.prog X.w H h':=fun {a h'} ha hs b ob e=>by
  obtain⟨_,_,hfree⟩:=ha
  refine(I.hok b ob e).stay (fun c w' hc q=>(hs.2 c ?_).trans q) (fun _ q=>q) fun _ _ q=>q
  rintro rfl
  rcases hc with rfl|hc
  ·rw[hfree]at e;cases e
  ·rw[hfree]at hc;cases hc
 rcases hx with hk|hk
 ·refine wpAny_storeName_local hk hn (fun h' hn' hs=>?_) hcls
  obtain⟨oL,_,_,hoL,_⟩:=id hn
  refine h _ ⟨I.ok,I.os,I.bare,⟨fun b o e n hb hx=>?_,fun b o e n hb hx=>?_,I.base.free,fun b o e hx=>?_,I.base.tups,I.base.frzs,I.base.tbls⟩,⟨_,hn',fun j y v' e1 e2 e3=>?_⟩,fun y c e=>?_,I.free,I.freeC,fun p hp=>?_,tracked ⟨oL,hoL,I.free⟩ hs,by simpa using I.len⟩ ⟨_,hs,.inl rfl⟩
  ·exact(hs.2 b (Nat.ne_of_lt (Nat.lt_of_lt_of_le (Heap.lt_size e) I.ok.above))).trans (I.base.keep b o e n hb hx)
  ·obtain⟨sl,e1⟩:=I.base.slot b o e n hb hx
   exact⟨sl,(hs.2 b (Nat.ne_of_lt (Nat.lt_of_lt_of_le (Heap.lt_size e) I.ok.above))).trans e1⟩
  ·obtain⟨o',e1⟩:=I.base.there b o e hx
   exact⟨o',(hs.2 b (Nat.ne_of_lt (Nat.lt_of_lt_of_le (Heap.lt_size e) I.ok.above))).trans e1⟩
  ·by_cases hj:j=i
   ·subst hj
    rw[hi]at e1;cases e1
    rw[List.getElem?_set_self hiσ]at e2
    cases e2
    exact⟨u,r,.inl ⟨hk,by simp⟩⟩
   ·rw[List.getElem?_set_ne (Ne.symm hj)]at e2
    obtain⟨u',r',q⟩:=hl j y v' e1 e2 e3
    refine⟨u',r',?_⟩
    rcases q with ⟨k,e⟩|⟨k,c,e,z⟩
    ·refine .inl ⟨k,?_⟩
     have:y≠x:=fun e=>hj (p5 hN e1 (e▸hi))
     simp[this,e]
    ·exact .inr ⟨k,c,e,z.sameBut hs (cne y c e)⟩
  ·obtain⟨w',z⟩:=I.cell y c e
   exact⟨w',z.sameBut hs (cne y c e)⟩
  ·obtain⟨e,n,ne,nf,d⟩:=I.pin p hp
   exact⟨(hs.2 p.1 ne).trans e,n,ne,nf,d⟩
 ·have hfn:X.fn x=true:=by
   rcases hf with z|z
   ·exact z
   ·rw[z]at hk;cases hk
  obtain⟨c,hc⟩:=I.ok.has x (.inl hk)
  obtain⟨w',z⟩:=I.cell x c hc
  refine wpAny_storeName_cell I.ok.kind hk hc z (fun h' hc' hs=>?_)
  obtain⟨oc,hoc,hocd⟩:=id z
  refine h { s with heap:=h' } ⟨I.ok,I.os,I.bare,⟨fun b o e n hb hx=>?_,fun b o e n hb hx=>?_,I.base.free,fun b o e hx=>?_,I.base.tups,I.base.frzs,I.base.tbls⟩,⟨m,hn.sameBut hs (Ne.symm (cne x c hc)),fun j y v' e1 e2 e3=>?_⟩,fun y c' e=>?_,I.free,I.freeC,fun p hp=>?_,tracked ⟨oc,hoc,I.freeC x c hc⟩ hs,by simpa using I.len⟩ ⟨c,hs,.inr hc⟩
  ·exact(hs.2 b (Nat.ne_of_lt (Nat.lt_of_lt_of_le (Heap.lt_size e) (I.ok.cab x c hfn hc)))).trans (I.base.keep b o e n hb hx)
  ·obtain⟨sl,e1⟩:=I.base.slot b o e n hb hx
   exact⟨sl,(hs.2 b (Nat.ne_of_lt (Nat.lt_of_lt_of_le (Heap.lt_size e) (I.ok.cab x c hfn hc)))).trans e1⟩
  ·obtain⟨o',e1⟩:=I.base.there b o e hx
   exact⟨o',(hs.2 b (Nat.ne_of_lt (Nat.lt_of_lt_of_le (Heap.lt_size e) (I.ok.cab x c hfn hc)))).trans e1⟩
  ·by_cases hj:j=i
   ·subst hj
    rw[hi]at e1;cases e1
    rw[List.getElem?_set_self hiσ]at e2
    cases e2
    exact⟨u,r,.inr ⟨.inl hk,c,hc,hc'⟩⟩
   ·rw[List.getElem?_set_ne (Ne.symm hj)]at e2
    obtain⟨u',r',q⟩:=hl j y v' e1 e2 e3
    refine⟨u',r',?_⟩
    rcases q with q|⟨k,c',e,z'⟩
    ·exact .inl q
    ·refine .inr ⟨k,c',e,z'.sameBut hs ?_⟩
     rintro rfl
     exact hj (p5 hN e1 (I.ok.inj _ _ _ e hc▸hi))
  ·by_cases hcc:c'=c
   ·subst hcc;exact⟨_,hc'⟩
   ·obtain⟨w2,z2⟩:=I.cell y c' e
    exact⟨w2,z2.sameBut hs hcc⟩
  ·obtain⟨e,n,ne,nf,d⟩:=I.pin p hp
   refine⟨(hs.2 p.1 ?_).trans e,n,ne,nf,d⟩
   intro q
   rw[q,hoc]at e
   have q':oc=p.2:=Option.some.inj e
   exact d w' (by rw[←q'];exact hocd)
theorem pH{M:Model}{A:Around}{E:Value→Shared→Prop}{i:Nat}{x:Str}{v:V}{u:Value}{Q:Unit→Shared→Prop}(I:Inv X pins σ H s)(hN:X.N.Nodup)(hi:X.N[i]? = some x)(hx:Loc X.env.scope x)(r:RelV v u)
  (h:∀s',Inv X pins (σ.set i (some v)) H s'→Q () s') (hf:X.fn x=true∨X.env.scope.names.lookup x=some .local:=by first|exact .inl rfl|exact .inr rfl|assumption):wpAny M A (storeName X.env x u) Q E s:=
 tN I hN hi hx r (fun s' I' _=>h s' I') hf
theorem Inv.call'{s':Shared}{ch:List Addr}(I:Inv X pins σ H s)(ho:s'.os=s.os)(u:Un (frs X.stack) ch H H' s.heap s'.heap)(hok:HOk X.prog X.w H' s'.heap)(hg:AllBare s'.gens)
  (hch:∀b∈ch,(b∈X.ex∨X.s₀.heap.objs.size≤b)∧b≠X.env.locals∧(∀x c,X.env.cells.lookup x=some c→c≠b)∧∀p∈X.pn++pins,p.1≠b):Inv X pins σ H' s':=by
 obtain⟨h',g',d',t',o'⟩:=s'
 have e:o'=s.os:=ho
 subst e
 exact I.call (g':=g') (t':=t') (d':=d') u hok hg hch
end
abbrev XK:=Value→Option Addr→Hp→Prop
abbrev St:=List (Option V)
abbrev VK:=V→Hp→Prop
abbrev TE:=St→Hp→VK→Prop
abbrev TT:=St→Hp→(Bool→Hp→Prop)→Prop
abbrev TA:=St→Hp→(List V→Hp→Prop)→Prop
structure Ends where
 nx:St→Hp→Prop
 rt:VK
 bk:St→Hp→Prop:=fun _ _=>False
 ct:St→Hp→Prop:=fun _ _=>False
abbrev TS:=Ends→St→Hp→Prop
def EP(X:Cx)(pins:List (Addr×Obj))(σ:St)(Q:VK)(u:Value)(s':Shared):Prop:=∃v H',Inv X pins σ H' s'∧RelV v u∧Q v H'
def TP(X:Cx)(pins:List (Addr×Obj))(σ:St)(Q:Bool→Hp→Prop)(b:Bool)(s':Shared):Prop:=∃H',Inv X pins σ H' s'∧Q b H'
def AP(X:Cx)(pins:List (Addr×Obj))(σ:St)(Q:List V→Hp→Prop)(us:List Value)(s':Shared):Prop:=∃vs H',Inv X pins σ H' s'∧Vals vs us∧Q vs H'
def SP(X:Cx)(pins:List (Addr×Obj))(D:Ends)(f:Flow)(s':Shared):Prop:=
 match f with
 |.next=>∃σ' H',Inv X pins σ' H' s'∧D.nx σ' H'
 |.brk=>∃σ' H',Inv X pins σ' H' s'∧D.bk σ' H'
 |.cont=>∃σ' H',Inv X pins σ' H' s'∧D.ct σ' H'
 |.ret u=>∃v σ' H',Inv X pins σ' H' s'∧RelV v u∧D.rt v H'
def PE(X:Cx)(e:Expr)(t:TE):Prop:=
 ∀(pins:List (Addr×Obj))(s:Shared)(σ:St)(H:Hp)(Q:VK),Inv X pins σ H s→t σ H Q→wpAny (model X.prog X.w) X.A (eval e X.env) (EP X pins σ Q) X.xe s
def PT(X:Cx)(e:Expr)(t:TT):Prop:=
 ∀(pins:List (Addr×Obj))(s:Shared)(σ:St)(H:Hp)(Q:Bool→Hp→Prop),Inv X pins σ H s→t σ H Q→wpAny (model X.prog X.w) X.A (isTrue e X.env (eval e X.env)) (TP X pins σ Q) X.xe s
def PW(X:Cx)(e:Expr)(t:TT):Prop:=
 ∀(whole:Sem Value)(pins:List (Addr×Obj))(s:Shared)(σ:St)(H:Hp)(Q:Bool→Hp→Prop),Inv X pins σ H s→t σ H Q→wpAny (model X.prog X.w) X.A (isTrue e X.env whole) (TP X pins σ Q) X.xe s
theorem PW.pt{X:Cx}{e:Expr}{t:TT}(h:PW X e t):PT X e t:=h _
def PA(X:Cx)(es:List Expr)(t:TA):Prop:=
 ∀(pos:Pos)(pins:List (Addr×Obj))(s:Shared)(σ:St)(H:Hp)(Q:List V→Hp→Prop),Inv X pins σ H s→t σ H Q→wpAny (model X.prog X.w) X.A (spliced (backTo pos (starEach es X.env))) (AP X pins σ Q) X.xe s
def PS(X:Cx)(st:Stmt)(t:TS):Prop:=
 ∀(pins:List (Addr×Obj))(s:Shared)(σ:St)(H:Hp)(D:Ends),Inv X pins σ H s→t D σ H→wpAny (model X.prog X.w) X.A (exec st X.env) (SP X pins D) X.xe s
def PSs(X:Cx)(st:List Stmt)(t:TS):Prop:=
 ∀(pins:List (Addr×Obj))(s:Shared)(σ:St)(H:Hp)(D:Ends),Inv X pins σ H s→t D σ H→wpAny (model X.prog X.w) X.A (execs st X.env) (SP X pins D) X.xe s
theorem thn{α:Type}{t:Sem α}{Q Q':α→Shared→Prop}{M:Model}{A:Around}{E:Value→Shared→Prop}{s:Shared}(h:wpAny M A t Q E s)(hQ:∀a s,Q a s→Q' a s):wpAny M A t Q' E s:=wpAny_mono h hQ fun _ _ x=>x
end L2
namespace L2
open PySem PySem.Spec PyProof.Rows
section
variable {X:Cx}
def EY(i:Nat):TE:=fun σ H Q=>∃v,σ[i]? = some (some v)∧Q v H
def tC(v:V):TE:=fun _ H Q=>Q v H
theorem i7 {i:Nat} {x:Str} {pos:Pos} (hN:X.N[i]? = some x) (hv:Vis X.env.scope x) (hd:(x==("__debug__":Str))=false:=by decide) (hcd:(x==("__classdict__":Str))=false:=by decide):PE X (.Name x pos) (EY i):=by
 intro pins s σ H Q I h
 obtain⟨v,e,h⟩:=h
 obtain⟨m,hn,hl⟩:=I.loc
 obtain⟨u,r,l⟩:=hl i x v hN e hv
 have fin:EP X pins σ Q u s:=⟨v,H,I,r,h⟩
 rcases l with ⟨hk,hm⟩|⟨hk,c,hc,hcell⟩
 ·exact wpAny_Name (wpAny_loadName_local I.ok.kind hk hn hm fin) hd
 ·rcases hk with hk|hk
  ·exact wpAny_Name (wpAny_loadName_cell I.ok.kind hk hc hcell fin) hd
  ·exact wpAny_Name (wpAny_loadName_free I.ok.kind hk hc hcell fin hcd) hd
theorem BD{i j pos}:PE X (.Constant (.int i) j pos) (tC (.int i)):=fun _ _ _ H _ I h=>wpAny_Constant_int ⟨.int i,H,I.tok _,⟨_,rfl⟩,h⟩
theorem DH{b j pos}:PE X (.Constant (.bool b) j pos) (tC (.bl b)):=fun _ _ _ H _ I h=>Constant_bool ⟨.bl b,H,I,rfl,h⟩
theorem BC{j pos}:PE X (.Constant .none j pos) (tC .non):=fun _ _ _ H _ I h=>Constant_none ⟨.non,H,I,rfl,h⟩
def Gl(X:Cx)(x:Str):Prop:=X.env.kindOf x=some .globalImplicit
theorem sJ{E:Value→Shared→Prop}{pins:List (Addr×Obj)}{s:Shared}{σ:St}{H:Hp}{x:Str}{u:Value}{pos:Pos}{Q:Value→Shared→Prop}(I:Inv X pins σ H s)(hg:Gl X x)(hm:X.mg x=some u)(h:Q u s)
  (hd:(x==("__debug__":Str))=false:=by decide):wpAny (model X.prog X.w) X.A (eval (.Name x pos) X.env) Q E s:=
 Calls.Name_function_global I.ok.kind hg (Calls.loadGlobal_global (by rw[I.ok.glob];exact I.mod.glob.keeps I.bk) hm h) hd
theorem jc{E:Value→Shared→Prop}{pins:List (Addr×Obj)}{s:Shared}{σ:St}{H:Hp}{x:Str}{u:Value}{pos:Pos}{Q:Value→Shared→Prop}(I:Inv X pins σ H s)(hg:Gl X x)(hm:X.mg x=none)(hv:bootBuiltins x=some u)(h:Q u s)
  (hn:x≠"__name__":=by decide) (hd:(x==("__debug__":Str))=false:=by decide):wpAny (model X.prog X.w) X.A (eval (.Name x pos) X.env) Q E s:=by
 obtain⟨mb,h1,h2⟩:=I.mod.blt
 exact Calls.Name_function_global I.ok.kind hg (Calls.loadGlobal_builtin (by rw[I.ok.glob];exact I.mod.glob.keeps I.bk) hm (by rw[I.ok.blt];exact h1.keeps I.bk) ((h2 x hn).trans hv) h) hd
theorem za {x:Str} {v:V} {u:Value} {pos:Pos} (hg:Gl X x) (hm:X.mg x=none) (hv:bootBuiltins x=some u) (r:RelV v u) (hn:x≠"__name__":=by decide) (hd:(x==("__debug__":Str))=false:=by decide):PE X (.Name x pos) (tC v):=
 fun _ _ _ H _ I h=>jc I hg hm hv ⟨v,H,I,r,h⟩ hn hd
variable {a b:Expr}{ta tb:TE}{pos:Pos}
def tB(t:TE):TT:=fun σ H Q=>t σ H fun x H1=>∃c,x=.bl c∧Q c H1
theorem Bp{e:Expr}{t:TE}(h:PE X e t)(he:∀whole,isTrue e X.env whole=(do let v ←whole;standAt e.pos;holding [v] (truthy v)):=by intro _;rfl):PT X e (tB t):=by
 intro pins s σ H Q I hw
 refine isTrue_plain (thn (h pins s σ H _ I hw) fun v s1 ⟨x,H1,I1,r1,q1⟩=>?_) (he _)
 obtain⟨d,rfl,q⟩:=q1
 cases r1
 exact wpAny_truthy_bool ⟨H1,I1,q⟩
variable {tA tB':TT}{rest:List Expr}
def nM(t u:TT):TT:=fun σ H Q=>t σ H fun c H1=>if c=true then u σ H1 Q else Q false H1
def tOr(t u:TT):TT:=fun σ H Q=>t σ H fun c H1=>if c=true then Q true H1 else u σ H1 Q
def eS(t:TT):TT:=fun σ H Q=>t σ H fun c H1=>Q (!c) H1
theorem yQ(ha:PT X a tA):PW X (.BoolOp .And [a] pos) tA:=by
 intro wh pins s σ H Q I h
 refine isTrue_and (thn (ha pins s σ H Q I h) fun c s1 e=>?_)
 cases c with
 |true=>exact isTrue_and_nil e
 |false=>exact e
theorem Bm(ha:PT X a tA):PW X (.BoolOp .Or [a] pos) tA:=by
 intro wh pins s σ H Q I h
 refine isTrue_or (thn (ha pins s σ H Q I h) fun c s1 e=>?_)
 cases c with
 |false=>exact isTrue_or_nil e
 |true=>exact e
theorem Bn(ha:PT X a tA)(hb:PW X (.BoolOp .And (b::rest) pos) tB'):PW X (.BoolOp .And (a::b::rest) pos) (nM tA tB'):=by
 intro wh pins s σ H Q I h
 refine isTrue_and (thn (ha pins s σ H _ I h) fun c s1 ⟨H1,I1,q1⟩=>?_)
 cases c with
 |true=>exact hb wh pins s1 σ H1 Q I1 q1
 |false=>exact⟨H1,I1,q1⟩
theorem Dz(ha:PT X a tA)(hb:PW X (.BoolOp .Or (b::rest) pos) tB'):PW X (.BoolOp .Or (a::b::rest) pos) (tOr tA tB'):=by
 intro wh pins s σ H Q I h
 refine isTrue_or (thn (ha pins s σ H _ I h) fun c s1 ⟨H1,I1,q1⟩=>?_)
 cases c with
 |true=>exact⟨H1,I1,q1⟩
 |false=>exact hb wh pins s1 σ H1 Q I1 q1
theorem Bq(ha:PT X a tA):PT X (.UnaryOp .Not a pos) (eS tA):=by
 intro pins s σ H Q I h
 exact isTrue_not (ha pins s σ H (fun c H1=>Q (!c) H1) I h)
def C6(ta tb:TE):TE:=fun σ H Q=>ta σ H fun x H1=>∃c,x=.bl c∧if c=true then tb σ H1 Q else Q (.bl false) H1
def E4(ta tb:TE):TE:=fun σ H Q=>ta σ H fun x H1=>∃c,x=.bl c∧if c=true then Q (.bl true) H1 else tb σ H1 Q
def C0(ta:TE):TE:=fun σ H Q=>ta σ H fun x H1=>∃c,x=.bl c∧Q (.bl (!c)) H1
theorem BA{op}{t:TE}(h:PE X a t):PE X (.BoolOp op [a] pos) t:=fun pins s σ H Q I hw=>BoolOp_one (h pins s σ H Q I hw)
theorem BF(ha:PE X a ta)(hb:PE X (.BoolOp .And (b::rest) pos) tb):PE X (.BoolOp .And (a::b::rest) pos) (C6 ta tb):=by
 intro pins s σ H Q I h
 refine BoolOp_and (thn (ha pins s σ H _ I h) fun v s1 ⟨x,H1,I1,r1,q1⟩=>?_)
 obtain⟨c,rfl,q1⟩:=q1
 cases r1
 refine wpAny_truthy_bool ?_
 cases c with
 |true=>exact hb pins s1 σ H1 Q I1 q1
 |false=>exact⟨.bl false,H1,I1,rfl,q1⟩
theorem DD(ha:PE X a ta)(hb:PE X (.BoolOp .Or (b::rest) pos) tb):PE X (.BoolOp .Or (a::b::rest) pos) (E4 ta tb):=by
 intro pins s σ H Q I h
 refine BoolOp_or (thn (ha pins s σ H _ I h) fun v s1 ⟨x,H1,I1,r1,q1⟩=>?_)
 obtain⟨c,rfl,q1⟩:=q1
 cases r1
 refine wpAny_truthy_bool ?_
 cases c with
 |false=>exact hb pins s1 σ H1 Q I1 q1
 |true=>exact⟨.bl true,H1,I1,rfl,q1⟩
theorem BB(ha:PE X a ta):PE X (.UnaryOp .Not a pos) (C0 ta):=by
 intro pins s σ H Q I h
 refine UnaryOp_ (thn (ha pins s σ H _ I h) fun v s1 ⟨x,H1,I1,r1,q1⟩=>?_)
 obtain⟨c,rfl,q1⟩:=q1
 cases r1
 exact not_of (wpAny_truthy_bool ⟨.bl (!c),H1,I1,rfl,q1⟩)
end
end L2
namespace L2
open PySem PySem.Spec PyProof.Rows
def SqL(K:PySem.W.Frag)(H:Hp)(a:Addr)(xs:List V):Prop:=
 Rd H a (.lst xs) ∨
  ∃(o:Obj) (its:Array Value) (n:Nat),K.lookup a=some o∧o.cls=.type "list"∧o.dict=none∧o.data=.seq its n∧its.size≤sizeLine∧Vals xs its.toList
def SqT(K:PySem.W.Frag)(H:Hp)(a:Addr)(xs:List V):Prop:=
 Rd H a (.tup xs) ∨
  ∃(o:Obj) (its:Array Value) (n:Nat),K.lookup a=some o∧o.cls=.type "tuple"∧o.data=.seq its n∧its.size≤sizeLine∧Vals xs its.toList
def Gf:Value→Option V
 |.none=>some .non
 |.bool b=>some (.bl b)
 |.int i _=>some (.int i)
 |.str x _=>some (.str x)
 |.bytes b _=>some (.byt b)
 |.float b _=>some (.flt b)
 |.ref a=>some (.ref a)
 |.type n=>some (.ty n)
 |_=>none
theorem RelV.abs{x:V}{u:Value}(r:RelV x u):Gf u=some x:=by
 cases x with
 |non=>cases r;rfl
 |bl _=>cases r;rfl
 |int _=>obtain⟨t,rfl⟩:=r;rfl
 |str _=>obtain⟨t,rfl⟩:=r;rfl
 |byt _=>obtain⟨t,rfl⟩:=r;rfl
 |flt _=>obtain⟨t,rfl⟩:=r;rfl
 |ref _=>cases r;rfl
 |ty _=>cases r;rfl
theorem RelV.inj{x y:V}{u:Value}(r:RelV x u)(q:RelV y u):x=y:=Option.some.inj (r.abs.symm.trans q.abs)
theorem Vals.inj:∀{xs ys:List V}{us:List Value},Vals xs us→Vals ys us→xs=ys
 |_,_,_,.nil,.nil=>rfl
 |_,_,_,.cons r t,.cons r' t'=>by rw[r.inj r',Vals.inj t t']
section
variable {X:Cx}{pins:List (Addr×Obj)}{σ:St}{H:Hp}{s:Shared}{a:Addr}{xs ys:List V}
theorem SqL.of{K:PySem.W.Frag}(h:H a=some (.lst xs)):SqL K H a xs:=.inl (.inl h)
theorem SqT.of{K:PySem.W.Frag}(h:H a=some (.tup xs)):SqT K H a xs:=.inl (.inl h)
theorem Inv.list(I:Inv X pins σ H s)(h:SqL X.K H a xs):∃its:List Value,Vals xs its∧PlainL s.heap a its.toArray∧xs.length≤sizeLine:=by
 rcases h with h|⟨o,its,n,hk,hc,hd,hs,hz,r⟩
 ·obtain⟨z,its,n,r,e⟩:=h.ok I.hok
  exact⟨its,r,⟨_,n,e,rfl,rfl,rfl⟩,z⟩
 ·refine⟨its.toList,r,⟨o,n,I.kIn a o hk,hc,hd,by simpa using hs⟩,?_⟩
  have e:=r.length
  simp only[Array.length_toList]at e
  omega
theorem Inv.tuple(I:Inv X pins σ H s)(h:SqT X.K H a xs):∃its:List Value,Vals xs its∧IsTup s.heap a its.toArray∧xs.length≤sizeLine:=by
 rcases h with h|⟨o,its,n,hk,hc,hs,hz,r⟩
 ·obtain⟨z,its,r,p⟩:=h.ok I.hok
  exact⟨its,r,p,z⟩
 ·refine⟨its.toList,r,⟨o,I.kIn a o hk,hc,n,by simpa using hs⟩,?_⟩
  have e:=r.length
  simp only[Array.length_toList]at e
  omega
theorem Inv.list_inj(I:Inv X pins σ H s)(h:SqL X.K H a xs)(h':SqL X.K H a ys):xs=ys:=by
 obtain⟨its,r,⟨o,n,e,_,_,d⟩,_⟩:=I.list h
 obtain⟨its',r',⟨o',n',e',_,_,d'⟩,_⟩:=I.list h'
 rw[e]at e';cases e'
 rw[d]at d'
 injection d' with d1 _
 have:its=its':=by simpa using congrArg Array.toList d1
 subst this
 exact r.inj r'
theorem Inv.tuple_inj(I:Inv X pins σ H s)(h:SqT X.K H a xs)(h':SqT X.K H a ys):xs=ys:=by
 obtain⟨its,r,⟨o,e,_,n,d⟩,_⟩:=I.tuple h
 obtain⟨its',r',⟨o',e',_,n',d'⟩,_⟩:=I.tuple h'
 rw[e]at e';cases e'
 rw[d]at d'
 injection d' with d1 _
 have:its=its':=by simpa using congrArg Array.toList d1
 subst this
 exact r.inj r'
end
abbrev Cx.wish(X:Cx)(E:Value→Shared→Prop):Cx:={ X with xe:=E }
abbrev Cx.nox(X:Cx):Cx:=X.wish fun _ _=>False
theorem Cx.Ok.wish{X:Cx}(ok:X.Ok)(E:Value→Shared→Prop):(X.wish E).Ok:=
 ⟨ok.mod,ok.kind,ok.glob,ok.blt,ok.above,ok.inj,ok.has,ok.cab,ok.hd,ok.frames,ok.stk,ok.exf,ok.bs,ok.bsz,ok.noex,ok.exfs,ok.funs,ok.frf⟩
theorem Cx.Ok.unwish{X:Cx}{E:Value→Shared→Prop}(ok:(X.wish E).Ok):X.Ok:=
 ⟨ok.mod,ok.kind,ok.glob,ok.blt,ok.above,ok.inj,ok.has,ok.cab,ok.hd,ok.frames,ok.stk,ok.exf,ok.bs,ok.bsz,ok.noex,ok.exfs,ok.funs,ok.frf⟩
section
variable {X:Cx}{pins:List (Addr×Obj)}{σ:St}{H:Hp}{s:Shared}{E:Value→Shared→Prop}
theorem Inv.wish(I:Inv X pins σ H s)(E:Value→Shared→Prop):Inv (X.wish E) pins σ H s:=⟨I.ok.wish E,I.os,I.bare,I.base,I.loc,I.cell,I.free,I.freeC,I.pin,I.hok,I.len⟩
theorem Inv.unwish(I:Inv (X.wish E) pins σ H s):Inv X pins σ H s:=⟨I.ok.unwish,I.os,I.bare,I.base,I.loc,I.cell,I.free,I.freeC,I.pin,I.hok,I.len⟩
theorem SP.unwish{D:Ends}{f:Flow}{s':Shared}(h:SP (X.wish E) pins D f s'):SP X pins D f s':=by
 cases f with
 |next=>obtain⟨σ',H',I,q⟩:=h;exact⟨σ',H',I.unwish,q⟩
 |brk=>obtain⟨σ',H',I,q⟩:=h;exact⟨σ',H',I.unwish,q⟩
 |cont=>obtain⟨σ',H',I,q⟩:=h;exact⟨σ',H',I.unwish,q⟩
 |ret u=>obtain⟨v,σ',H',I,r,q⟩:=h;exact⟨v,σ',H',I.unwish,r,q⟩
theorem PSs.nox{st:List Stmt}{t:TS}(h:PSs X.nox st t):PSs X st t:=fun pins s σ H D I hw=>
 wpAny_mono (h pins s σ H D (I.wish _) hw) (fun _ _ q=>q.unwish) fun _ _ z=>False.elim z
end
section
variable {X:Cx}{st:Stmt}{rest:List Stmt}{t u:TS}{e:Expr}{te:TE}{pos:Pos}
def C3:TS:=fun D σ H=>D.nx σ H
def E0(t u:TS):TS:=fun D σ H=>t { D with nx:=u D } σ H
theorem yU:PSs X [] C3:=fun _ _ σ H _ I h=>wpAny_execs_nil ⟨σ,H,I,h⟩
theorem vR(h1:PS X st t)(h2:PSs X rest u):PSs X (st::rest) (E0 t u):=by
 intro pins s σ H D I h
 refine wpAny_execs_cons (thn (h1 pins s σ H { D with nx:=u D } I h) fun f s1 q=>?_)
 cases f with
 |next=>
  obtain⟨σ',H',I',q⟩:=q
  exact h2 pins s1 σ' H' D I' q
 |ret v=>exact q
 |brk=>exact q
 |cont=>exact q
theorem yT(h1:PS X st t):PSs X [st] t:=by
 intro pins s σ H D I h
 refine wpAny_execs_cons (thn (h1 pins s σ H D I h) fun f s1 q=>?_)
 cases f with
 |next=>exact wpAny_execs_nil q
 |ret v=>exact q
 |brk=>exact q
 |cont=>exact q
theorem Inv.quiet{pins:List (Addr×Obj)}{σ:St}{H:Hp}{s:Shared}(I:Inv X pins σ H s):interactive X.env=false:=by simp[interactive,I.ok.kind]
def C4(te:TE):TS:=fun D σ H=>te σ H fun _ H1=>D.nx σ H1
theorem n9(he:PE X e te)(hs:swapsWith e none pos.line X.env=pure false:=by rfl):PS X (.Expr e pos) (C4 te):=by
 intro pins s σ H D I h
 exact wpAny_Expr_any (thn (he pins s σ H _ I h) fun v s1 ⟨x,H1,I1,r1,q1⟩=>⟨σ,H1,I1,q1⟩) I.quiet hs
def E3(te:TE):TS:=fun D σ H=>te σ H D.rt
theorem Br(he:PE X e te):PS X (.Return (some e) pos) (E3 te):=by
 intro pins s σ H D I h
 exact wpAny_Return_some (thn (he pins s σ H _ I h) fun v s1 ⟨x,H1,I1,r1,q1⟩=>⟨x,σ,H1,I1,r1,q1⟩)
def E7(c:TT)(t u:TS):TS:=fun D σ H=>c σ H fun b H1=>if b=true then t D σ H1 else u D σ H1
theorem DB{c:Expr}{a b:List Stmt}{tc:TT}(hc:PT X c tc)(ha:PSs X a t)(hb:PSs X b u):PS X (.If c a b pos) (E7 tc t u):=by
 intro pins s σ H D I h
 refine wpAny_If (thn (hc pins s σ H _ I h) fun d s1 ⟨H1,I1,q1⟩=>?_)
 cases d with
 |true=>exact ha pins s1 σ H1 D I1 q1
 |false=>exact hb pins s1 σ H1 D I1 q1
end
abbrev TG:=V→St→Hp→(St→Hp→Prop)→Prop
abbrev TGs:=List V→St→Hp→(St→Hp→Prop)→Prop
def PG(X:Cx)(target:Expr)(t:TG):Prop:=
 ∀(pins:List (Addr×Obj))(s:Shared)(σ:St)(H:Hp)(v:V)(u:Value)(Q:St→Hp→Prop),Inv X pins σ H s→RelV v u→t v σ H Q →
  wpAny (model X.prog X.w) X.A (assign target X.env u) (fun _ s'=>∃σ' H',Inv X pins σ' H' s'∧Q σ' H') X.xe s
def PGs(X:Cx)(ts:List Expr)(t:TGs):Prop:=
 ∀(pins:List (Addr×Obj))(s:Shared)(σ:St)(H:Hp)(vs:List V)(us:List Value)(Q:St→Hp→Prop),Inv X pins σ H s→Vals vs us→t vs σ H Q →
  wpAny (model X.prog X.w) X.A (assignInOrder ((assignEach ts X.env).map (·.2)) us) (fun _ s'=>∃σ' H',Inv X pins σ' H' s'∧Q σ' H') X.xe s
section
variable {X:Cx}{pos:Pos}
def As(i:Nat):TG:=fun v σ H Q=>Q (σ.set i (some v)) H
theorem kC{i:Nat}{x:Str}(hN:X.N.Nodup)(hi:X.N[i]? = some x)(hx:Loc X.env.scope x)(hf:X.fn x=true∨X.env.scope.names.lookup x=some .local:=by first|exact .inl rfl|exact .inr rfl|assumption):PG X (.Name x pos) (As i):=by
 intro pins s σ H v u Q I r h
 exact wpAny_assign_Name (pH I hN hi hx r (fun s' I'=>⟨_,H,I',h⟩) hf)
def FK:TGs:=fun vs σ H Q=>vs=[]∧Q σ H
def D8(t:TG)(u:TGs):TGs:=fun vs σ H Q=>∃v r,vs=v::r∧t v σ H fun σ' H'=>u r σ' H' Q
theorem yX:PGs X [] FK:=by
 intro pins s σ H vs us Q I r h
 obtain⟨e,h⟩:=h
 subst e
 cases r
 exact assignInOrder_nil ⟨σ,H,I,h⟩
theorem vU{e:Expr}{es:List Expr}{t:TG}{u:TGs}(h1:PG X e t)(h2:PGs X es u)
  (hs:(assignEach (e::es) X.env).map (·.2)=assign e X.env::(assignEach es X.env).map (·.2):=by rfl):PGs X (e::es) (D8 t u):=by
 intro pins s σ H vs us Q I r h
 obtain⟨v,vr,e1,h⟩:=h
 subst e1
 cases r with
 |cons r rr=>
  rw[hs]
  refine assignInOrder_cons (thn (h1 pins s σ H _ _ _ I r h) fun _ s1 ⟨σ1,H1,I1,q1⟩=>?_)
  exact h2 pins s1 σ1 H1 _ _ Q I1 rr q1
def FJ(K:PySem.W.Frag)(n:Nat)(t:TGs):TG:=fun v σ H Q=>∃a xs,v=.ref a∧SqT K H a xs∧xs.length=n∧t xs σ H Q
theorem Bw{es:List Expr}{k:Nat}{t:TGs}{n:Nat}(hc:X.calm=true)(h:PGs X es t)
  (hn:(assignEach es X.env).length=n:=by rfl) (hst:(assignEach es X.env).findIdx? (·.1)=none:=by rfl):PG X (.Tuple es k pos) (FJ X.K n t):=by
 intro pins s σ H v u Q I r hw
 obtain⟨a,xs,e1,hq,hl,hw⟩:=hw
 subst e1
 cases r
 obtain⟨its,rv,ht,hz⟩:=I.tuple hq
 refine assign_Tuple_tuple (I.ok.hd hc) ht (by simp[hn,←hl,rv.length]) hst fun h' hx=>?_
 have I1:Inv X pins σ H { s with heap:=h' }:=I.kept (t':=s.toks) fun b o e=>hx b o (Nat.ne_of_lt (Heap.lt_size e)) e
 exact h pins _ σ H xs _ Q I1 (by simpa using rv) hw
def Fb(te:TE)(g:TG):TS:=fun D σ H=>te σ H fun x H1=>g x σ H1 D.nx
theorem ri{i:Nat}{x:Str}{e:Expr}{te:TE}{pos':Pos}(hN:X.N.Nodup)(hi:X.N[i]? = some x)(hx:Loc X.env.scope x)(he:PE X e te)(hs:swapsWith e (some (.Name x pos')) pos.line X.env=pure false:=by rfl)(hf:X.fn x=true∨X.env.scope.names.lookup x=some .local:=by first|exact .inl rfl|exact .inr rfl|assumption):
  PS X (.Assign [.Name x pos'] e pos) (Fb te (As i)):=by
 intro pins s σ H D I h
 refine wpAny_Assign_Name (thn (he pins s σ H _ I h) fun v s1 ⟨y,H1,I1,r1,q1⟩=>?_) hs
 exact pH I1 hN hi hx r1 (fun s2 I2=>⟨_,H1,I2,q1⟩) hf
end
section
variable {X:Cx}{pos:Pos}
def AJ(c:TT)(tb:TS):TS:=fun D σ H=>∃W:Nat→St→Hp→Prop,(∃m,W m σ H)∧∀m σ H,W m σ H →
 c σ H fun b H1=>if b=true then ∃N:St→Hp→Prop,(∀σ' H',N σ' H'→∃m',m'<m∧W m' σ' H')∧tb { D with nx:=N,ct:=N,bk:=D.nx } σ H1 else D.nx σ H1
theorem vS{c:Expr}{body:List Stmt}{tc:TT}{tb:TS}(hp:PassesOwn (model X.prog X.w) X.A X.env X.xe)(hc:PT X c tc)(hb:PSs X body tb):PS X (.While c body [] pos) (AJ tc tb):=by
 intro pins s σ H D I h
 obtain⟨W,⟨m0,w0⟩,turn⟩:=h
 refine wpAny_While (codeAny_whileLoop (fun n s'=>∃σ' H',Inv X pins σ' H' s'∧W n σ' H') ?_ m0 ⟨σ,H,I,w0⟩)
 rintro n s1 ⟨σ1,H1,I1,w1⟩
 refine wpAny_passesOwn hp (thn (hc pins s1 σ1 H1 _ I1 (turn n σ1 H1 w1)) fun b s2 ⟨H2,I2,q2⟩=>?_)
 cases b with
 |true=>
  obtain⟨N,hN,q2⟩:=q2
  rw[if_pos rfl]
  refine wpAny_passesOwn hp (thn (hb pins s2 σ1 H2 _ I2 q2) fun f s3 q3=>?_)
  cases f with
  |next=>
   obtain⟨σ3,H3,I3,n3⟩:=q3
   obtain⟨m',hm,w3⟩:=hN σ3 H3 n3
   exact⟨m',hm,σ3,H3,I3,w3⟩
  |cont=>
   obtain⟨σ3,H3,I3,n3⟩:=q3
   obtain⟨m',hm,w3⟩:=hN σ3 H3 n3
   exact⟨m',hm,σ3,H3,I3,w3⟩
  |brk=>exact q3
  |ret v=>exact q3
 |false=>
  rw[if_neg Bool.false_ne_true]
  exact wpAny_execs_nil ⟨σ1,H2,I2,q2⟩
end
structure It where
 go:Nat→Hp→Prop
 yld:Nat→Hp→V→Hp→Prop
 stop:Nat→Hp→Prop
def gx(X:Cx)(pins:List (Addr×Obj))(H:Hp)(b:Addr):Prop:=
 H b=none∧b≠X.env.locals∧b∉X.fs∧(b∈X.ex∨X.s₀.heap.objs.size≤b)∧(∀x c,X.env.cells.lookup x=some c→c≠b)∧∀p∈X.pn++pins,p.1≠b
theorem Inv.fpOk{X:Cx}{pins:List (Addr×Obj)}{σ:St}{H H':Hp}{s:Shared}{b:Addr}(I:Inv X pins σ H s)(hb:s.heap.objs.size≤b)(hn:H' b=none):gx X pins H' b:=by
 refine⟨hn,Nat.ne_of_gt (Nat.lt_of_lt_of_le I.lt hb),I.nofs hb,.inr (Nat.le_trans I.sz hb),fun x c e z=>?_,fun p hp z=>?_⟩
 ·obtain⟨v,q⟩:=I.cell x c e
  exact absurd (Nat.lt_of_lt_of_le q.lt (by rw[z];exact hb)) (Nat.lt_irrefl _)
 ·exact absurd (Nat.lt_of_lt_of_le (Heap.lt_size (I.pin p hp).1) (by rw[z];exact hb)) (Nat.lt_irrefl _)
structure Turn (P:Program) (w:World) (K:PySem.W.Frag) (tg:Expr) (J:It) (fp:List Addr) (it:Addr) (tn:Nat→Heap→Prop):Prop where
 mem:it∈fp
 obj:∀i h,tn i h→∀b∈fp,∃o,h.get? b=some o∧∀v,o.data≠.cell v
 keep:∀i h h',tn i h→(∀b∈fp,∀o,h.get? b=some o→h'.get? b=some o)→tn i h'
 item:∀(X:Cx),X.prog=P→X.w=w→X.K=K→X.calm=true→∀(i:Nat)(pins:List (Addr×Obj))(s:Shared)(σ:St)(H:Hp)(E:Value→Shared→Prop),Inv X pins σ H s→(∀b∈fp,gx X pins H b)→tn i s.heap→J.go i H →
  wpAny (model P w) X.A (pyNext (.ref it)) (fun r s1=>∃u,r=some u ∧
   wpAny (model P w) X.A (letOwnedTupleGo tg (.ref it) u) (fun _ s2=>∃x H',Inv X pins σ H' s2∧RelV x u∧J.yld i H x H'∧tn (i+1) s2.heap∧∀b∈fp,H' b=none) E s1) E s
 done:∀(X:Cx),X.prog=P→X.w=w→X.K=K→X.calm=true→∀(i:Nat)(pins:List (Addr×Obj))(s:Shared)(σ:St)(H:Hp)(E:Value→Shared→Prop),Inv X pins σ H s→(∀b∈fp,gx X pins H b)→tn i s.heap→J.stop i H →
  wpAny (model P w) X.A (pyNext (.ref it)) (fun r s1=>r=none∧Inv X pins σ H s1) E s
 self:∀(A:Around)(i:Nat)(s:Shared)(Q:Value→Shared→Prop)(E:Value→Shared→Prop),tn i s.heap→Q (.ref it) s→wpAny (model P w) A (pyIter (.ref it)) Q E s
abbrev TI:=St→Hp→(It→Hp→Prop)→Prop
def PIE(X:Cx)(pins:List (Addr×Obj))(σ:St)(tg:Expr)(R:It→Hp→Prop)(itv:Value)(s2:Shared):Prop:=
 ∃(it:Addr)(fp:List Addr)(tn:Nat→Heap→Prop)(J:It)(H':Hp),itv=.ref it∧Inv X pins σ H' s2∧Turn X.prog X.w X.K tg J fp it tn∧tn 0 s2.heap∧(∀b∈fp,gx X pins H' b)∧R J H'
def PI(X:Cx)(tg iter:Expr)(wi:TI):Prop:=
 ∀(pins:List (Addr×Obj))(s:Shared)(σ:St)(H:Hp)(R:It→Hp→Prop),Inv X pins σ H s→wi σ H R →
  wpAny (model X.prog X.w) X.A (eval iter X.env) (fun v s1=>wpAny (model X.prog X.w) X.A (pyIter v) (PIE X pins σ tg R) X.xe s1) X.xe s
theorem sT{M:Model}{A:Around}{E:Value→Shared→Prop}{s:Shared}{tg:Expr}{it:Addr}{u:Value}{o:Obj}{n:String}{vs:Array Value}{Q:Unit→Shared→Prop}(ho:s.heap.get? it=some o)(hc:o.cls=.type n)(hd:o.data=.fields vs)
  (hn:["enumerate","zip","dict_itemiterator","dict_reverseitemiterator","odict_iterator","itertools.zip_longest","itertools.pairwise"].contains n=false) (hQ:Q () s):wpAny M A (letOwnedTupleGo tg (.ref it) u) Q E s:=by
 unfold letOwnedTupleGo
 cases tg<;>first
  |exact wpAny_pure hQ
  | (cases u <;> first
    |exact wpAny_pure hQ
    | (refine wpAny_bind (wpAny_load ho ?_)
       rw[hc,hd]
       show wpAny M A (if (["enumerate","zip","dict_itemiterator","dict_reverseitemiterator","odict_iterator","itertools.zip_longest","itertools.pairwise"].contains n&&vs[0]? == some (rawInt _))=true then _ else _) Q E s
       rw[if_neg (by intro h;rw[hn,Bool.false_and]at h;cases h)]
       exact wpAny_pure hQ))
def Itl(K:PySem.W.Frag)(a:Addr):It:=
 ⟨fun i H=>∃xs x,SqL K H a xs∧xs[i]? = some x,fun i H x H'=>H'=H∧∀xs,SqL K H a xs→xs[i]? = some x,fun i H=>∃xs,SqL K H a xs∧xs.length≤i⟩
def Itt(K:PySem.W.Frag)(a:Addr):It:=
 ⟨fun i H=>∃xs x,SqT K H a xs∧xs[i]? = some x,fun i H x H'=>H'=H∧∀xs,SqT K H a xs→xs[i]? = some x,fun i H=>∃xs,SqT K H a xs∧xs.length≤i⟩
def Itr(lo:Int)(n:Nat):It:=⟨fun i _=>i<n,fun i H x H'=>H'=H∧x=.int (lo+i),fun i _=>n≤i⟩
theorem tL{P:Program}{w:World}{K:PySem.W.Frag}{tg:Expr}(a it:Addr):Turn P w K tg (Itl K a) [it] it (fun i h=>h.IsListIter it a i) where
 mem:=by simp
 obj:=fun i h st b hb=>by
  have e:b=it:=by simpa using hb
  subst e
  obtain⟨o,e,c,d⟩:=st
  exact⟨o,e,fun v z=>by rw[d]at z;cases z⟩
 keep:=fun i h h' st k=>st.at fun o e=>k it (by simp) o e
 item:=by
  intro X hP hw hK hc i pins s σ H E I hf st hg
  subst hP hw hK
  obtain⟨xs,x,hq,hx⟩:=hg
  obtain⟨its,rv,p,hz⟩:=I.list hq
  obtain⟨u,hu,ru⟩:=rv.get hx
  obtain⟨f0,f1,f2,f3,f4,f5⟩:=hf it (by simp)
  refine wpAny_pyNext_list_item st p.isList (x:=u) (by simpa using hu) fun h' st' sb=>?_
  have I1:Inv X pins σ H { s with heap:=h' }:=I.turned (t':=s.toks) (fun b o hb e=>(sb.2 b hb).trans e) f0 f1 f3 f4 f5
  obtain⟨o,e,c,d⟩:=id st'
  exact⟨u,rfl,sT (s:={ s with heap:=h' }) e c d (by decide) ⟨x,H,I1,ru,⟨rfl,fun ys hy=>by rw[I.list_inj hy hq];exact hx⟩,st',fun b hb=>(hf b hb).1⟩⟩
 done:=by
  intro X hP hw hK hc i pins s σ H E I hf st hg
  subst hP hw hK
  obtain⟨xs,hq,hx⟩:=hg
  obtain⟨its,rv,p,hz⟩:=I.list hq
  obtain⟨f0,f1,f2,f3,f4,f5⟩:=hf it (by simp)
  have hl:=rv.length
  exact wpAny_pyNext_list_end (I.ok.hd hc) st p.isList (by simp;omega) fun h' eb=>⟨rfl,I.turned (t':=s.toks) (fun b o hb e=>eb b o hb e) f0 f1 f3 f4 f5⟩
 self:=fun _ _ _ _ _ st h=>wpAny_pyIter_listiter st h
theorem qO{P:Program}{w:World}{K:PySem.W.Frag}{tg:Expr}(a it:Addr):Turn P w K tg (Itt K a) [it] it (fun i h=>h.IsTupleIter it a i) where
 mem:=by simp
 obj:=fun i h st b hb=>by
  have e:b=it:=by simpa using hb
  subst e
  obtain⟨o,e,c,d⟩:=st
  exact⟨o,e,fun v z=>by rw[d]at z;cases z⟩
 keep:=fun i h h' st k=>st.at fun o e=>k it (by simp) o e
 item:=by
  intro X hP hw hK hc i pins s σ H E I hf st hg
  subst hP hw hK
  obtain⟨xs,x,hq,hx⟩:=hg
  obtain⟨its,rv,p,hz⟩:=I.tuple hq
  obtain⟨u,hu,ru⟩:=rv.get hx
  obtain⟨f0,f1,f2,f3,f4,f5⟩:=hf it (by simp)
  refine wpAny_pyNext_tuple_item st (show s.heap.IsTuple a its.toArray from p) (x:=u) (by simpa using hu) fun h' st' sb=>?_
  have I1:Inv X pins σ H { s with heap:=h' }:=I.turned (t':=s.toks) (fun b o hb e=>(sb.2 b hb).trans e) f0 f1 f3 f4 f5
  obtain⟨o,e,c,d⟩:=id st'
  exact⟨u,rfl,sT (s:={ s with heap:=h' }) e c d (by decide) ⟨x,H,I1,ru,⟨rfl,fun ys hy=>by rw[I.tuple_inj hy hq];exact hx⟩,st',fun b hb=>(hf b hb).1⟩⟩
 done:=by
  intro X hP hw hK hc i pins s σ H E I hf st hg
  subst hP hw hK
  obtain⟨xs,hq,hx⟩:=hg
  obtain⟨its,rv,p,hz⟩:=I.tuple hq
  obtain⟨f0,f1,f2,f3,f4,f5⟩:=hf it (by simp)
  have hl:=rv.length
  exact wpAny_pyNext_tuple_end (I.ok.hd hc) st (show s.heap.IsTuple a its.toArray from p) (by simp;omega) fun h' eb=>⟨rfl,I.turned (t':=s.toks) (fun b o hb e=>eb b o hb e) f0 f1 f3 f4 f5⟩
 self:=fun _ _ _ _ _ st h=>wpAny_pyIter_tupleiter st h
theorem qP{P:Program}{w:World}{K:PySem.W.Frag}{tg:Expr}(it:Addr)(lo:Int)(n:Nat):Turn P w K tg (Itr lo n) [it] it (fun i h=>IsRangeIter h it (lo+(i:Nat)*1) ((n:Int)-(i:Nat)) 1) where
 mem:=by simp
 obj:=fun i h st b hb=>by
  have e:b=it:=by simpa using hb
  subst e
  exact⟨_,st,fun v z=>by
   have z':Data.fields _=Data.cell v:=z
   cases z'⟩
 keep:=fun i h h' st k=>k it (by simp) _ st
 item:=by
  intro X hP hw hK hc i pins s σ H E I hf st hg
  subst hP hw hK
  obtain⟨f0,f1,f2,f3,f4,f5⟩:=hf it (by simp)
  have W:=Walks.range (prog:=X.prog) (w:=X.w) (I.ok.hd hc) it lo 1 n
  refine W.item i s _ _ hg st fun v h' tk hv st' kk=>?_
  obtain⟨t,rfl⟩:=hv
  have I1:Inv X pins σ H { s with heap:=h',toks:=tk }:=I.turned (fun b o hb e=>kk b o (by simpa using hb) e) f0 f1 f3 f4 f5
  refine⟨_,rfl,sT (s:={ s with heap:=h',toks:=tk }) (n:="range_iterator") st' rfl rfl (by decide) ⟨.int (lo+i),H,I1,⟨t,?_⟩,⟨rfl,rfl⟩,st',fun b hb=>(hf b hb).1⟩⟩
  rw[Int.mul_one]
 done:=by
  intro X hP hw hK hc i pins s σ H E I hf st hg
  subst hP hw hK
  obtain⟨f0,f1,f2,f3,f4,f5⟩:=hf it (by simp)
  exact wpAny_pyNext_range_end (I.ok.hd hc) st (by have:n≤i:=hg;omega) fun h' eb=>⟨rfl,I.turned (t':=s.toks) (fun b o hb e=>eb b o hb e) f0 f1 f3 f4 f5⟩
 self:=fun _ _ _ _ _ st h=>wpAny_pyIter_rangeiter st h
end L2
namespace L2
open PySem PySem.Spec PyProof.Rows
section
variable {X:Cx}{tg:Expr}
def D6(K:PySem.W.Frag)(tl:TE):TI:=fun σ H R=>tl σ H fun x H1=>∃a,x=.ref a∧(∃xs,SqL K H1 a xs)∧R (Itl K a) H1
def FH(K:PySem.W.Frag)(tl:TE):TI:=fun σ H R=>tl σ H fun x H1=>∃a,x=.ref a∧(∃xs,SqT K H1 a xs)∧R (Itt K a) H1
theorem oe{l:Expr}{tl:TE}(hl:PE X l tl):PI X tg l (D6 X.K tl):=by
 intro pins s σ H R I h
 refine thn (hl pins s σ H _ I h) fun v s1 ⟨x,H1,I1,r1,q1⟩=>?_
 obtain⟨a,e,⟨xs,hq⟩,q⟩:=q1
 subst e
 cases r1
 obtain⟨its,rv,p,hz⟩:=I1.list hq
 refine wpAny_pyIter_list p.isList ?_
 refine⟨s1.heap.objs.size,[s1.heap.objs.size],_,_,H1,rfl,I1.kept (t':=s1.toks) fun b o e=>Heap.get?_push_of_some _ e,tL a _,⟨_,Heap.get?_push_size _ rfl,rfl,rfl⟩,fun b hb=>?_,q⟩
 have e:b=s1.heap.objs.size:=by simpa using hb
 subst e
 exact I1.fpOk (Nat.le_refl _) (I1.hok.fresh (Nat.le_refl _))
theorem Bv{l:Expr}{tl:TE}(hl:PE X l tl):PI X tg l (FH X.K tl):=by
 intro pins s σ H R I h
 refine thn (hl pins s σ H _ I h) fun v s1 ⟨x,H1,I1,r1,q1⟩=>?_
 obtain⟨a,e,⟨xs,hq⟩,q⟩:=q1
 subst e
 cases r1
 obtain⟨its,rv,p,hz⟩:=I1.tuple hq
 refine wpAny_pyIter_tuple (show s1.heap.IsTuple a its.toArray from p) ?_
 refine⟨s1.heap.objs.size,[s1.heap.objs.size],_,_,H1,rfl,I1.kept (t':=s1.toks) fun b o e=>Heap.get?_push_of_some _ e,qO a _,⟨_,Heap.get?_push_size _ rfl,rfl,rfl⟩,fun b hb=>?_,q⟩
 have e:b=s1.heap.objs.size:=by simpa using hb
 subst e
 exact I1.fpOk (Nat.le_refl _) (I1.hok.fresh (Nat.le_refl _))
theorem vE{pins:List (Addr×Obj)}{σ:St}{H:Hp}{s:Shared}{R:It→Hp→Prop}{E:Value→Shared→Prop}{lo hi:Int}{t u v:Tok}{tk:Nat}(I:Inv X pins σ H s)(h1:-(2 ^ 62)≤lo)(h2:lo<2 ^ 62)(h3:-(2 ^ 62)≤hi)(h4:hi<2 ^ 62)
  (q:R (Itr lo (hi-lo).toNat) H):wpAny (model X.prog X.w) X.A (pyIter (.ref s.heap.objs.size)) (PIE X pins σ tg R) E { s with heap:=s.heap.push { cls:=.type "range",data:=.fields #[.int lo t,.int hi u,.int 1 v] },toks:=tk }:=by
 refine wpAny_pyIter_range (IsRange.new ..) (small_one h1 h2 h3 h4) ?_
 have I1:Inv X pins σ H { s with heap:=s.heap.push { cls:=.type "range",data:=.fields #[.int lo t,.int hi u,.int 1 v] },toks:=tk }:=I.kept fun b o e=>Heap.get?_push_of_some _ e
 refine⟨(s.heap.push { cls:=.type "range",data:=.fields #[.int lo t,.int hi u,.int 1 v] }).objs.size,[(s.heap.push { cls:=.type "range",data:=.fields #[.int lo t,.int hi u,.int 1 v] }).objs.size],_,_,H,rfl,
  I1.kept (t':=tk) fun b o e=>Heap.get?_push_of_some _ e,qP _ lo (hi-lo).toNat,?_,fun b hb=>?_,q⟩
 ·have e1:lo+((0:Nat):Int)*1=lo:=by simp
  have e2:(((hi-lo).toNat:Nat):Int)-((0:Nat):Int)=Builtin.Range.rangeSize lo hi 1:=by rw[rangeSize_one];split<;>omega
  show IsRangeIter _ _ (lo+((0:Nat):Int)*1) ((((hi-lo).toNat:Nat):Int)-((0:Nat):Int)) 1
  rw[e1,e2]
  exact Heap.get?_push_size _ rfl
 ·have e:b=(s.heap.push { cls:=.type "range",data:=.fields #[.int lo t,.int hi u,.int 1 v] }).objs.size:=by simpa using hb
  subst e
  exact I1.fpOk (Nat.le_refl _) (I1.hok.fresh (Nat.le_refl _))
def D5(ta:TA):TI:=fun σ H R=>ta σ H fun vs H1=>∃j:Int,vs=[.int j]∧-(2 ^ 62)≤j∧j<2 ^ 62∧R (Itr 0 j.toNat) H1
theorem ug {a:Expr} {ta:TA} {p pos:Pos} (hg:Gl X "range") (hm:X.mg "range" = none) (ha:PA X [a] ta) (hs:starEach [a] X.env=[(false,eval a X.env)]:=by rfl):PI X tg (.Call (.Name "range" p) [a] [] pos) (D5 ta):=by
 intro pins s σ H R I h
 refine Call_ (jc I hg hm boot_range (PyProof.Rows.callWith_type1 (thn (ha pos pins s σ H _ I h) fun us s1 ⟨vs,H1,I1,r1,q1⟩=>?_) hs rfl))
 obtain⟨j,e,q1,q2,q⟩:=q1
 subst e
 cases r1 with
 |cons r rr=>
  cases rr
  obtain⟨t,rfl⟩:=r
  exact call_range_1 (vE I1 (by omega) (by omega) q1 q2 (by simpa using q))
def E8(wi:TI)(g:TG)(tb:TS):TS:=fun D σ H=>wi σ H fun J H1=>∃W:Nat→Nat→St→Hp→Prop,(∃m,W 0 m σ H1)∧∀i m σ H,W i m σ H →
 (J.stop i H∧D.nx σ H)∨(J.go i H∧∃N:St→Hp→Prop,(∀σ' H',N σ' H'→∃m',m'<m∧W (i+1) m' σ' H')∧∀x H',J.yld i H x H'→g x σ H' fun σ2 H2=>tb { D with nx:=N,ct:=N,bk:=D.nx } σ2 H2)
def oa(fp:List Addr)(h:Heap):List (Addr×Obj):=fp.filterMap fun b=>(h.get? b).map fun o=>(b,o)
theorem bQ{fp:List Addr}{h:Heap}{b:Addr}{o:Obj}(hb:b∈fp)(e:h.get? b=some o):(b,o)∈oa fp h:=List.mem_filterMap.mpr ⟨b,hb,by rw[e];rfl⟩
theorem uo{fp:List Addr}{h:Heap}{p:Addr×Obj}(hp:p∈oa fp h):p.1∈fp∧h.get? p.1=some p.2:=by
 obtain⟨b,hb,e⟩:=List.mem_filterMap.mp hp
 cases q:h.get? b with
 |none=>rw[q]at e;cases e
 |some o=>
  rw[q]at e
  have e':(b,o)=p:=Option.some.inj e
  subst e'
  exact⟨hb,q⟩
theorem Inv.pinned{pins:List (Addr×Obj)}{σ:St}{H:Hp}{s:Shared}{fp:List Addr}(I:Inv X pins σ H s)(hf:∀b∈fp,gx X pins H b)(ho:∀b∈fp,∃o,s.heap.get? b=some o∧∀v,o.data≠.cell v):Inv X (pins++oa fp s.heap) σ H s:=
 I.pins_of fun p hp=>(List.mem_append.mp hp).elim (fun z=>I.pin p (List.mem_append_right _ z)) fun z=>by
  obtain⟨hb,e⟩:=uo z
  obtain⟨f0,f1,f2,_⟩:=hf p.1 hb
  obtain⟨o,e',d⟩:=ho p.1 hb
  rw[e]at e';cases e'
  exact⟨e,f0,f1,f2,d⟩
theorem Inv.unpinned{pins pl:List (Addr×Obj)}{σ:St}{H:Hp}{s:Shared}(I:Inv X (pins++pl) σ H s):Inv X pins σ H s:=I.pins_of fun p hp=>I.pin p (List.mem_append_right _ (List.mem_append_left _ hp))
theorem Bs{iter:Expr}{body:List Stmt}{wi:TI}{g:TG}{tb:TS}{pos:Pos}(hp:PassesOwn (model X.prog X.w) X.A X.env X.xe)(hc:X.calm=true)(hi:PI X tg iter wi)(hg:PG X tg g)(hb:PSs X body tb)
  (hs:∀x,foldedSetIterable iter X.env x=pure x:=by intro _;rfl):PS X (.For tg iter body [] pos) (E8 wi g tb):=by
 intro pins s σ H D I h
 refine wpAny_For (thn (hi pins s σ H _ I h) fun v s1 h1=>thn h1 fun itv s2 h2=>?_) hs
 obtain⟨it,fp,tn,J,H2,e,I2,T,st2,f2,W,⟨m0,w0⟩,turn⟩:=h2
 subst e
 have stat:∀{H':Hp},(∀b∈fp,H' b=none)→∀b∈fp,gx X pins H' b:=fun hn b hb=>⟨hn b hb,(f2 b hb).2⟩
 refine codeAny_forLoop_any (fun n s'=>∃i σ' H',Inv X pins σ' H' s'∧tn i s'.heap∧(∀b∈fp,H' b=none)∧W i n σ' H') ?_ m0 ⟨0,σ,H2,I2,st2,fun b hb=>(f2 b hb).1,w0⟩
 rintro n s3 ⟨i,σ3,H3,I3,st3,fr3,w3⟩
 rcases turn i n σ3 H3 w3 with ⟨stop,qn⟩|⟨go,N,hN,step⟩
 ·refine wpAny_passesOwn hp (thn (T.done X rfl rfl rfl hc i pins s3 σ3 H3 X.xe I3 (stat fr3) st3 stop) fun r s4 ⟨hr,I4⟩=>?_)
  subst hr
  exact wpAny_execs_nil ⟨σ3,H3,I4,qn⟩
 ·refine wpAny_passesOwn hp (thn (T.item X rfl rfl rfl hc i pins s3 σ3 H3 X.xe I3 (stat fr3) st3 go) fun r s4 ⟨u,hr,h4⟩=>?_)
  subst hr
  refine wpAny_passesOwn hp (thn h4 fun _ s5 ⟨x,H5,I5,r5,y5,st5,fr5⟩=>?_)
  have I5':=I5.pinned (stat fr5) (T.obj _ _ st5)
  refine wpAny_passesOwn hp (thn (hg _ s5 σ3 H5 x u _ I5' r5 (step x H5 y5)) fun _ s6 ⟨σ6,H6,I6,q6⟩=>?_)
  refine wpAny_passesOwn hp (thn (hb _ s6 σ6 H6 _ I6 q6) fun f s7 q7=>?_)
  have again:∀{σ7:St}{H7:Hp},Inv X (pins++oa fp s5.heap) σ7 H7 s7→N σ7 H7→∃m,m<n∧∃i σ' H',Inv X pins σ' H' s7∧tn i s7.heap∧(∀b∈fp,H' b=none)∧W i m σ' H':=fun {σ7 H7} I7 n7=>by
   obtain⟨m',hm,w7⟩:=hN σ7 H7 n7
   refine⟨m',hm,i+1,σ7,H7,I7.unpinned,T.keep _ _ _ st5 fun b hb o e=>(I7.pin (b,o) (List.mem_append_right _ (List.mem_append_right _ (bQ hb e)))).1,fun b hb=>?_,w7⟩
   obtain⟨o,e,d⟩:=T.obj _ _ st5 b hb
   exact(I7.pin (b,o) (List.mem_append_right _ (List.mem_append_right _ (bQ hb e)))).2.1
  cases f with
  |next=>obtain⟨σ7,H7,I7,n7⟩:=q7;exact again I7 n7
  |cont=>obtain⟨σ7,H7,I7,n7⟩:=q7;exact again I7 n7
  |brk=>obtain⟨σ7,H7,I7,q7⟩:=q7;exact⟨σ7,H7,I7.unpinned,q7⟩
  |ret v=>obtain⟨x7,σ7,H7,I7,r7,q7⟩:=q7;exact⟨x7,σ7,H7,I7.unpinned,r7,q7⟩
end
end L2
namespace L2
open PySem PySem.Spec PyProof.Rows
abbrev R2:=V→V→Hp→VK→Prop
def OpR(X:Cx)(f:Value→Value→Sem Value)(r:R2):Prop:=
 ∀(pins:List (Addr×Obj))(s:Shared)(σ:St)(H:Hp)(x y:V)(v u:Value)(Q:VK),Inv X pins σ H s→RelV x v→RelV y u→r x y H Q →
  wpAny (model X.prog X.w) X.A (f v u) (EP X pins σ Q) X.xe s
def UnR(X:Cx)(f:Value→Sem Value)(r:V→Hp→VK→Prop):Prop:=
 ∀(pins:List (Addr×Obj))(s:Shared)(σ:St)(H:Hp)(x:V)(v:Value)(Q:VK),Inv X pins σ H s→RelV x v→r x H Q →
  wpAny (model X.prog X.w) X.A (f v) (EP X pins σ Q) X.xe s
def gv(X:Cx)(f:Value)(r:List V→Hp→VK→Prop):Prop:=
 ∀(pins:List (Addr×Obj))(s:Shared)(σ:St)(H:Hp)(xs:List V)(us:List Value)(Q:VK),Inv X pins σ H s→Vals xs us→r xs H Q →
  wpAny (model X.prog X.w) X.A (call f us) (EP X pins σ Q) X.xe s
def tOp(r:R2)(ta tb:TE):TE:=fun σ H Q=>ta σ H fun x H1=>tb σ H1 fun y H2=>r x y H2 Q
def tUn(r:V→Hp→VK→Prop)(ta:TE):TE:=fun σ H Q=>ta σ H fun x H1=>r x H1 Q
def rI(C:Int→Int→Prop)(g:Int→Int→V):R2:=fun x y H Q=>∃i j,x=.int i∧y=.int j∧C i j∧Q (g i j) H
def rI0(g:Int→Int→V):R2:=fun x y H Q=>∃i j,x=.int i∧y=.int j∧Q (g i j) H
def rU(g:Int→V):V→Hp→VK→Prop:=fun x H Q=>∃i,x=.int i∧Q (g i) H
section
variable {X:Cx}{a b c:Expr}{ta tb tc:TE}{pos:Pos}
theorem CG(ha:PE X a ta)(hb:PE X b tb){pins:List (Addr×Obj)}{s:Shared}{σ:St}{H:Hp}{R:V→V→Hp→Prop}(I:Inv X pins σ H s)
  (h:ta σ H fun x H1=>tb σ H1 fun y H2=>R x y H2) {Q:Value→Shared→Prop} {f:Value→Value→Sem Value}
  (hf:∀v u s2 x y H2,Inv X pins σ H2 s2→RelV x v→RelV y u→R x y H2→wpAny (model X.prog X.w) X.A (f v u) Q X.xe s2):
  wpAny (model X.prog X.w) X.A (eval a X.env) (fun v s₁=>wpAny (model X.prog X.w) X.A (eval b X.env) (fun u s₂=>wpAny (model X.prog X.w) X.A (f v u) Q X.xe s₂) X.xe s₁) X.xe s:=by
 refine thn (ha pins s σ H _ I h) fun v s1 ⟨x,H1,I1,r1,q1⟩=>?_
 refine thn (hb pins s1 σ H1 _ I1 q1) fun u s2 ⟨y,H2,I2,r2,q2⟩=>?_
 exact hf v u s2 x y H2 I2 r1 r2 q2
theorem DF{op:Operator}{r:R2}(ho:OpR X (binaryOp op) r)(ha:PE X a ta)(hb:PE X b tb):PE X (.BinOp a op b pos) (tOp r ta tb):=by
 intro pins s σ H Q I h
 exact wpAny_BinOp (CG ha hb I h fun v u s2 x y H2 I2 rx ry q=>ho pins s2 σ H2 x y v u Q I2 rx ry q)
theorem DC{op:UnaryOp}{r:V→Hp→VK→Prop}(ho:UnR X (unaryOp op) r)(ha:PE X a ta):PE X (.UnaryOp op a pos) (tUn r ta):=by
 intro pins s σ H Q I h
 exact UnaryOp_ (thn (ha pins s σ H _ I h) fun v s1 ⟨x,H1,I1,r1,q1⟩=>ho pins s1 σ H1 x v Q I1 r1 q1)
theorem opI{f:Value→Value→Sem Value}{C:Int→Int→Prop}{g:Int→Int→Int}
  (rule:∀(i j:Int)(t u:Tok)(s:Shared)(Q:Value→Shared→Prop)(E:Value→Shared→Prop),C i j→Q (.int (g i j) s.toks) { s with toks:=s.toks+1 }→wpAny (model X.prog X.w) X.A (f (.int i t) (.int j u)) Q E s):
  OpR X f (rI C fun i j=>.int (g i j)):=by
 intro pins s σ H x y v u Q I rx ry h
 obtain⟨i,j,rfl,rfl,hc,q⟩:=h
 obtain⟨t,rfl⟩:=rx
 obtain⟨t',rfl⟩:=ry
 exact rule i j t t' s _ _ hc ⟨.int (g i j),H,I.tok _,⟨_,rfl⟩,q⟩
theorem DU{f:Value→Value→Sem Value}{g:Int→Int→Int}
  (rule:∀(i j:Int)(t u:Tok)(s:Shared)(Q:Value→Shared→Prop)(E:Value→Shared→Prop),Q (.int (g i j) s.toks) { s with toks:=s.toks+1 }→wpAny (model X.prog X.w) X.A (f (.int i t) (.int j u)) Q E s):
  OpR X f (rI0 fun i j=>.int (g i j)):=by
 intro pins s σ H x y v u Q I rx ry h
 obtain⟨i,j,rfl,rfl,q⟩:=h
 obtain⟨t,rfl⟩:=rx
 obtain⟨t',rfl⟩:=ry
 exact rule i j t t' s _ _ ⟨.int (g i j),H,I.tok _,⟨_,rfl⟩,q⟩
theorem zi{f:Value→Value→Sem Value}{g:Int→Int→Bool}
  (rule:∀(i j:Int)(t u:Tok)(s:Shared)(Q:Value→Shared→Prop)(E:Value→Shared→Prop),Q (.bool (g i j)) s→wpAny (model X.prog X.w) X.A (f (.int i t) (.int j u)) Q E s):
  OpR X f (rI0 fun i j=>.bl (g i j)):=by
 intro pins s σ H x y v u Q I rx ry h
 obtain⟨i,j,rfl,rfl,q⟩:=h
 obtain⟨t,rfl⟩:=rx
 obtain⟨t',rfl⟩:=ry
 exact rule i j t t' s _ _ ⟨.bl (g i j),H,I,rfl,q⟩
def Gg(i j:Int):Prop:=0≤j∧j≤1000000∧i.natAbs<2 ^ 64
theorem BP:OpR X (binaryOp .Add) (rI0 fun i j=>.int (i+j)):=DU fun _ _ _ _ _ _ _ q=>add_int q
theorem BL:OpR X (binaryOp .Sub) (rI0 fun i j=>.int (i-j)):=DU fun _ _ _ _ _ _ _ q=>sub_int q
theorem zh:OpR X (binaryOp .Mod) (rI (fun _ j=>j≠0) fun i j=>.int (i.fmod j)):=opI fun _ _ _ _ _ _ _ hc q=>mod_int' hc q
theorem BN:OpR X (binaryOp .Pow) (rI Gg fun i j=>.int (i ^ j.toNat)):=opI fun _ _ _ _ _ _ _ hc q=>pow_int_small hc.1 hc.2.1 hc.2.2 q
theorem unI{f:Value→Sem Value}{g:Int→Int}
  (rule:∀(i:Int)(t:Tok)(s:Shared)(Q:Value→Shared→Prop)(E:Value→Shared→Prop),Q (.int (g i) s.toks) { s with toks:=s.toks+1 }→wpAny (model X.prog X.w) X.A (f (.int i t)) Q E s):
  UnR X f (rU fun i=>.int (g i)):=by
 intro pins s σ H x v Q I rx h
 obtain⟨i,rfl,q⟩:=h
 obtain⟨t,rfl⟩:=rx
 exact rule i t s _ _ ⟨.int (g i),H,I.tok _,⟨_,rfl⟩,q⟩
theorem AH:UnR X (unaryOp .USub) (rU fun i=>.int (-i)):=unI fun _ _ _ _ _ q=>neg_int q
end
section
variable {X:Cx}{a b c:Expr}{ta tb tc:TE}{pos:Pos}
theorem Cu{pins:List (Addr×Obj)}{σ:St}{H:Hp}{s:Shared}{Q:VK}{k k':Bool}(I:Inv X pins σ H s)(q:Q (.bl k) H)(e:k=k'):EP X pins σ Q (.bool k') s:=by
 subst e
 exact⟨.bl k,H,I,rfl,q⟩
theorem DN:OpR X (compareOp .Lt) (rI0 fun i j=>.bl (decide (i<j))):=zi fun _ _ _ _ _ _ _ q=>lt_int q
theorem DP:OpR X (compareOp .LtE) (rI0 fun i j=>.bl (decide (i≤j))):=zi fun _ _ _ _ _ _ _ q=>le_int q
theorem DQ:OpR X (compareOp .Gt) (rI0 fun i j=>.bl (decide (j<i))):=zi fun _ _ _ _ _ _ _ q=>gt_int q
theorem DR:OpR X (compareOp .GtE) (rI0 fun i j=>.bl (decide (j≤i))):=zi fun _ _ _ _ _ _ _ q=>ge_int q
theorem zg:OpR X (compareOp .IsNot) (fun x y H Q=>y=.non∧Q (.bl (!decide (x=.non))) H):=by
 intro pins s σ H x y v u Q I rx ry h
 obtain⟨rfl,q⟩:=h
 cases ry
 refine isnot_none_gen (Cu I q ?_)
 cases x<;>first
  | (cases rx; rfl)
  | (obtain ⟨t,rfl⟩:=rx; rfl)
theorem yY{op:CmpOp}{r:R2}(ho:OpR X (compareOp op) r)(ha:PE X a ta)(hb:PE X b tb)(hm:behindInMarks op b=false):PE X (.Compare a [op] [b] pos) (tOp r ta tb):=by
 intro pins s σ H Q I h
 exact wpAny_Compare1 (CG ha hb I h fun v u s2 x y H2 I2 rx ry q=>ho pins s2 σ H2 x y v u Q I2 rx ry q) hm
def CY(t:TE):TT:=fun σ H Q=>t σ H fun x H'=>∃k,x=.bl k∧Q k H'
theorem yS{op:CmpOp}{r:R2}(ho:OpR X (compareOp op) r)(ha:PE X a ta)(hb:PE X b tb)(hm:behindInMarks op b=false):PT X (.Compare a [op] [b] pos) (CY (tOp r ta tb)):=by
 intro pins s σ H Q I h
 refine wpAny_isTrue_Compare1 (thn (ha pins s σ H _ I h) fun v s1 ⟨x,H1,I1,r1,q1⟩=>thn (hb pins s1 σ H1 _ I1 q1) fun u s2 ⟨y,H2,I2,r2,q2⟩=>
  thn (ho pins s2 σ H2 x y v u _ I2 r1 r2 q2) fun c s3 ⟨z,H3,I3,r3,k,e,q3⟩=>?_) hm
 subst e
 cases r3
 exact wpAny_truthy_bool ⟨H3,I3,q3⟩
def AL(r r':R2)(ta tb tc:TE):TE:=fun σ H Q=>ta σ H fun x H1=>tb σ H1 fun y H2=>r x y H2 fun z H3=>∃k,z=.bl k ∧
 (if k=true then tc σ H3 fun w' H4=>r' y w' H4 Q else Q (.bl false) H3)
theorem vY{op op':CmpOp}{r r':R2}(ho:OpR X (compareOp op) r)(ho':OpR X (compareOp op') r')(ha:PE X a ta)(hb:PE X b tb)(hc:PE X c tc)
  (hm:lastMarks [op,op'] [b,c]=false:=by with_unfolding_all rfl):PE X (.Compare a [op,op'] [b,c] pos) (AL r r' ta tb tc):=by
 intro pins s σ H Q I h
 refine Compare_chain (thn (ha pins s σ H _ I h) fun v s1 ⟨x,H1,I1,r1,q1⟩=>chain_link (thn (hb pins s1 σ H1 _ I1 q1) fun u s2 ⟨y,H2,I2,r2,q2⟩=>
  thn (ho pins s2 σ H2 x y v u _ I2 r1 r2 q2) fun d s3 ⟨z,H3,I3,r3,k,e,q3⟩=>?_)) hm
 subst e
 cases r3
 refine wpAny_truthy_bool ?_
 cases k with
 |false=>exact ite_ff ⟨.bl false,H3,I3,rfl,q3⟩
 |true=>exact ite_tt (chain_last (thn (hc pins s3 σ H3 _ I3 q3) fun w' s4 ⟨z',H4,I4,r4,q4⟩=>ho' pins s4 σ H4 y z' u w' Q I4 r2 r4 q4))
theorem oH:(sizeLine:Nat)<2 ^ 63:=by rw[sizeLine_eq];decide
theorem vals1{x:V}{us:List Value}(r:Vals [x] us):∃u,us=[u]∧RelV x u:=by
 cases r with
 |cons r1 r2=>cases r2;exact⟨_,rfl,r1⟩
theorem vals2{x y:V}{us:List Value}(r:Vals [x,y] us):∃u w',us=[u,w']∧RelV x u∧RelV y w':=by
 cases r with
 |cons r1 r2=>
  cases r2 with
  |cons r3 r4=>cases r4;exact⟨_,_,rfl,r1,r3⟩
theorem xH:gv X (.builtin "abs") (fun xs H Q=>∃i,xs=[.int i]∧Q (.int (if i<0 then -i else i)) H):=by
 intro pins s σ H xs us Q I r h
 obtain⟨i,rfl,q⟩:=h
 obtain⟨u,rfl,t,rfl⟩:=vals1 r
 exact call_abs_int fun u tk=>⟨.int (if i<0 then -i else i),H,I.tok _,⟨_,rfl⟩,q⟩
theorem uR (hc:X.calm=true):gv X (.builtin "max") (fun xs H Q=>∃i j,xs=[.int i,.int j]∧Q (.int (if j>i then j else i)) H):=by
 intro pins s σ H xs us Q I r h
 obtain⟨i,j,rfl,q⟩:=h
 obtain⟨u,w',rfl,⟨t,rfl⟩,⟨t',rfl⟩⟩:=vals2 r
 refine max_two_ints (I.ok.hd hc) fun h' tk k=>⟨_,H,I.kept k,?_,q⟩
 by_cases hj:j>i
 ·rw[if_pos hj,if_pos hj];exact⟨_,rfl⟩
 ·rw[if_neg hj,if_neg hj];exact⟨_,rfl⟩
theorem uP (hc:X.calm=true):gv X (.builtin "min") (fun xs H Q=>∃i j,xs=[.int i,.int j]∧Q (.int (if j<i then j else i)) H):=by
 intro pins s σ H xs us Q I r h
 obtain⟨i,j,rfl,q⟩:=h
 obtain⟨u,w',rfl,⟨t,rfl⟩,⟨t',rfl⟩⟩:=vals2 r
 refine min_two_ints (I.ok.hd hc) fun h' tk k=>⟨_,H,I.kept k,?_,q⟩
 by_cases hj:j<i
 ·rw[if_pos hj,if_pos hj];exact⟨_,rfl⟩
 ·rw[if_neg hj,if_neg hj];exact⟨_,rfl⟩
theorem nB:gv X (.type "int") (fun xs H Q=>(∃i,xs=[.int i]∧Q (.int i) H)∨∃k,xs=[.bl k]∧Q (.int (if k then 1 else 0)) H):=by
 intro pins s σ H xs us Q I r h
 rcases h with ⟨i,rfl,q⟩|⟨k,rfl,q⟩
 ·obtain⟨u,rfl,t,rfl⟩:=vals1 r
  exact call_int_int ⟨.int i,H,I,⟨_,rfl⟩,q⟩
 ·obtain⟨u,rfl,r1⟩:=vals1 r
  cases r1
  exact call_int_bool ⟨.int (if k then 1 else 0),H,I.tok _,⟨_,rfl⟩,q⟩
end
end L2
namespace L2
open PySem PySem.Spec PyProof.Rows
structure ObjM (h:Heap) (x dx C:Addr) (mA:Str→Option Value):Prop where
 obj:h.get? x=some (PySem.W.instObj C dx)
 ns:h.Ns1 dx mA
 ne:dx≠x
theorem uu{h:Heap}{dx:Addr}{mA:Str→Option Value}(n:h.Ns1 dx mA):∃od,h.get? dx=some od∧∀name,PySem.W.lookIn name od=some (mA name):=by
 obtain⟨o,es,ep,ho,hd,hk,_,hm⟩:=n
 refine⟨o,ho,fun name=>?_⟩
 have e:=hm name
 unfold nsFind findBy at e
 rw[←Array.find?_toList]at e
 unfold PySem.W.lookIn
 rw[hd]
 dsimp only
 split
 ·rename_i y q
  rw[q]at e
  exact congrArg some e
 ·rename_i q
  rw[q]at e
  have a:es.toList.any (·.refKey)=false:=by
   rw[List.any_eq_false]
   intro y hy
   obtain⟨z,t,hkey⟩:=hk y (Array.mem_toList_iff.mp hy)
   simp[DictEntry.refKey,hkey]
  have a':¬es.toList.any (·.refKey)=true:=by rw[a];exact Bool.false_ne_true
  rw[if_neg a']
  exact congrArg some e
theorem ObjM.look{h:Heap}{x dx C:Addr}{mA:Str→Option Value}(I:ObjM h x dx C mA):∃od,PySem.W.InstAt h x (PySem.W.instObj C dx) C (some od)∧∀name,PySem.W.lookIn name od=some (mA name):=
 let⟨od,ho,hl⟩:=uu I.ns
 ⟨od,⟨I.obj,rfl,rfl,ho⟩,hl⟩
section
variable {prog:Program}{w:World}{A:Around}{E:Value→Shared→Prop}{s:Shared}{K:PySem.W.Frag}{x dx C f:Addr}{mA:Str→Option Value}{name:Str}{v:Value}
theorem DY{R:Result→Shared→Prop}{vs:List Value}{kw:List (Str×Value)}(X:K.In s.heap)(hm:PySem.W.makesIn K C=true)
  (hi:PySem.W.findIn K (.ref C) "__init__" = some (some (.ref f))) (hf:PySem.W.typeIn K (.ref f)=some (.type "function"))
  (h:codeAny (model prog w) (A.under (.builtin "type.__call__" ⟨.ref C::vs,kw⟩)) (.call (.ref f) ⟨.ref (s.heap.objs.size+1)::vs,kw⟩) (PySem.W.InitBack (s.heap.objs.size+1) R)
   { s with heap:=(s.heap.push PySem.W.emptyDict).push (PySem.W.instObj C s.heap.objs.size) }):
  codeAny (model prog w) A (.call (.ref C) ⟨vs,kw⟩) R s:=by
 obtain⟨hh,g,d,t,os⟩:=s
 exact PySem.W.make_core (PySem.W.makes_of X hm) (PySem.W.looks_findIn X hi) (fun self=>PySem.W.bind_fn X self hf) (.inl rfl) h
end
section
variable {P:Program}{w:World}{H H':Hp}{h h':Heap}{a C dx:Addr}{fs fs':List (Str×V)}
theorem zJ(hok:HOk P w H h)(e:H a=some (.ins C dx fs)):∃mA,ObjM h a dx C mA∧(∀f,Ag (fs.lookup f) (mA f))∧PySem.Within mA (fs.map (·.1))∧fs.length≤1000∧H dx=some (.own a):=by
 obtain⟨d,z,ne,ob,mA,n,r,q⟩:=(show dy P w H h a (.ins C dx fs) from hok a _ e)
 exact⟨mA,⟨ob,n,ne⟩,r,q,z,d⟩
end
structure Cls (K:PySem.W.Frag) (C:Addr):Prop where
 pg:PySem.W.plainGet K C Str.empty=true
 hd:PySem.W.hasDictIn K C=true
 po:PySem.W.plainOver K C=true
 sa:PySem.W.findIn K (.ref C) "__setattr__" = some (some (.builtin "object.__setattr__"))
theorem Cls.get{K:PySem.W.Frag}{C:Addr}(c:Cls K C)(f:Str):PySem.W.plainGet K C f=true:=c.pg
def CQ(K:PySem.W.Frag)(C:Addr)(f:Str):Prop:=PySem.W.findIn K (.ref C) f=some none
structure Con (K:PySem.W.Frag) (C:Addr) (f:Str) (v:V) (u:Value):Prop where
 at_:PySem.W.findIn K (.ref C) f=some (some u)
 rel:RelV v u
 get:PySem.W.specialIn K u "__get__" = some none
 cp:PySem.W.copiedNames.contains f=false
structure Meth (K:PySem.W.Frag) (C:Addr) (m:Str) (f:Addr):Prop where
 at_:PySem.W.findIn K (.ref C) m=some (some (.ref f))
 fn:PySem.W.isFn K (.ref f)=true
 kp:PySem.W.keepIn K (.ref f)=true
section
variable {X:Cx}{pins:List (Addr×Obj)}{σ:St}{H:Hp}{s:Shared}{a C dx:Addr}{fs:List (Str×V)}{f:Str}{v:V}{A:Around}{E:Value→Shared→Prop}
theorem Inv.made(I:Inv X pins σ H s):Inv X pins σ (upd (upd H s.heap.objs.size (.own (s.heap.objs.size+1))) (s.heap.objs.size+1) (.ins C s.heap.objs.size []))
  { s with heap:=(s.heap.push PySem.W.emptyDict).push (PySem.W.instObj C s.heap.objs.size) }:=by
 have e1:(s.heap.push PySem.W.emptyDict).get? s.heap.objs.size=some PySem.W.emptyDict:=Heap.get?_push_size s.heap rfl
 have e2:((s.heap.push PySem.W.emptyDict).push (PySem.W.instObj C s.heap.objs.size)).get? (s.heap.objs.size+1)=some (PySem.W.instObj C s.heap.objs.size):=by
  have:=Heap.get?_push_size (s.heap.push PySem.W.emptyDict) (o:=PySem.W.instObj C s.heap.objs.size) rfl
  rwa [Heap.size_push]at this
 have e3:(s.heap.push PySem.W.emptyDict).Ns s.heap.objs.size (fun _=>none):=⟨PySem.W.emptyDict,#[],_,e1,rfl,(fun e he=>absurd he (by simp)),fun _=>rfl⟩
 have I1:=I.laid (a:=s.heap.objs.size) (o:=.own (s.heap.objs.size+1)) (h':=s.heap.push PySem.W.emptyDict) (t':=s.toks) (fun b u q=>Heap.get?_push_of_some _ q) (Nat.le_refl _) ⟨_,e1⟩
 refine I1.laid (a:=s.heap.objs.size+1) (o:=.ins C s.heap.objs.size []) (t':=s.toks) (fun b u q=>Heap.get?_push_of_some _ q) (Nat.le_of_eq (Heap.size_push _ _)) ?_
 have ne:s.heap.objs.size≠s.heap.objs.size+1:=Nat.ne_of_lt (Nat.lt_succ_self _)
 refine⟨by rw[aR ne,aC],Nat.zero_le _,ne,e2,fun _=>none,(Heap.Ns1.of_empty e3).at fun o q=>Heap.get?_push_of_some _ q,fun _=>True.intro,fun y hy=>absurd rfl hy⟩
end
def Gu(K:PySem.W.Frag)(ta:TE)(f:Str):TE:=fun σ H Q=>ta σ H fun x H1=>∃a C dx fs v,x=.ref a∧H1 a=some (.ins C dx fs)∧Cls K C∧CQ K C f∧fs.lookup f=some v∧Q v H1
section
variable {X:Cx}{o e value:Expr}{f:Str}{pos pos' tpos:Pos}{ta tv:TE}
end
section
variable {X:Cx}{pins:List (Addr×Obj)}{σ:St}{H:Hp}{s:Shared}{A:Around}{E:Value→Shared→Prop}{Q:Value→Shared→Prop}{c:Value}{b:Bool}
inductive TyOf (K:PySem.W.Frag) (H:Hp):V→Value→Prop where
 |non:TyOf K H .non (.type "NoneType")
 |bl (x:Bool):TyOf K H (.bl x) (.type "bool")
 |int (i:Int):TyOf K H (.int i) (.type "int")
 |str (x:Str):TyOf K H (.str x) (.type "str")
 |flt (x:UInt64):TyOf K H (.flt x) (.type "float")
 |lst {a:Addr} {xs:List V} (e:H a=some (.lst xs)):TyOf K H (.ref a) (.type "list")
 |frz {a:Addr} {o:Obj} {xs:List V} (e:H a=some (.frz o (.lst xs))):TyOf K H (.ref a) (.type "list")
 |tup {a:Addr} {xs:List V} (e:H a=some (.tup xs)):TyOf K H (.ref a) (.type "tuple")
 |dK {a:Addr} {kvs:List (Key×V)} (e:H a=some (.dK kvs)):TyOf K H (.ref a) (.type "dict")
 |dT {a:Addr} {kvs:List (List Key×V)} (e:H a=some (.dT kvs)):TyOf K H (.ref a) (.type "dict")
 |ins {a C dx:Addr} {fs:List (Str×V)} (e:H a=some (.ins C dx fs)) (cl:Cls K C) (ha:PySem.W.findIn K (.ref C) "__class__" = some (some (.builtin "object.__class__")))
   (hn:PySem.W.specialIn K (.builtin "object.__class__") "__get__" = some (some (.builtin "getset_descriptor.__get__"))) (htk:PySem.W.takesIn K (.builtin "object.__class__")=some true)
   (hm:PySem.W.mroIn K C (.type "object")=some true):TyOf K H (.ref a) (.ref C)
theorem eI{x:V}{u t:Value}(I:Inv X pins σ H s)(rx:RelV x u)(ty:TyOf X.K H x t)(e:PySem.W.kitOne X.K t c=some b)(h:∀tk,Q (.bool b) { s with toks:=tk }):
  wpAny (model X.prog X.w) A (call (.builtin "isinstance") [u,c]) Q E s:=by
 cases ty with
 |non=>cases (show u=Value.none from rx);exact PySem.W.kia_one PySem.W.kitx_none I.kIn True.intro e (fun z=>nomatch z) h
 |bl y=>cases (show u=Value.bool y from rx);exact PySem.W.kia_one PySem.W.kitx_bool I.kIn True.intro e (fun z=>nomatch z) h
 |int i=>obtain⟨t,q⟩:=(show ∃t,u=Value.int i t from rx);cases q;exact PySem.W.kia_one PySem.W.kitx_int I.kIn True.intro e (fun z=>nomatch z) h
 |str y=>obtain⟨t,q⟩:=(show ∃t,u=Value.str y t from rx);cases q;exact PySem.W.kia_one PySem.W.kitx_str I.kIn True.intro e (fun z=>nomatch z) h
 |flt y=>obtain⟨t,q⟩:=(show ∃t,u=Value.float y t from rx);cases q;exact PySem.W.kia_one PySem.W.kitx_float I.kIn True.intro e (fun z=>nomatch z) h
 | @lst a xs ea=>
  cases (show u=Value.ref a from rx)
  obtain⟨_,_,n,_,h1⟩:=(show dy X.prog X.w H s.heap a (.lst xs) from I.hok a _ ea)
  exact PySem.W.kia_one PySem.W.kitx_list I.kIn ⟨_,h1,rfl⟩ e (fun z=>nomatch z) h
 | @frz a ob xs ea=>
  cases (show u=Value.ref a from rx)
  obtain⟨_,_,_,n,_,h1⟩:=(show dy X.prog X.w H s.heap a (.frz ob (.lst xs)) from I.hok a _ ea)
  exact PySem.W.kia_one PySem.W.kitx_list I.kIn ⟨_,h1,rfl⟩ e (fun z=>nomatch z) h
 | @tup a xs ea=>
  cases (show u=Value.ref a from rx)
  obtain⟨_,_,_,p⟩:=(show dy X.prog X.w H s.heap a (.tup xs) from I.hok a _ ea)
  obtain⟨o,h1,h2,_⟩:=p
  exact PySem.W.kia_one PySem.W.kitx_tuple I.kIn ⟨o,h1,h2⟩ e (fun z=>nomatch z) h
 | @dK a kvs ea=>
  cases (show u=Value.ref a from rx)
  obtain⟨_,_,vs,_,p⟩:=(show dy X.prog X.w H s.heap a (.dK kvs) from I.hok a _ ea)
  obtain⟨o,es,ep,h1,h2,_⟩:=p
  exact PySem.W.kia_one PySem.W.kitx_dict I.kIn ⟨o,h1,h2.1⟩ e (fun z=>nomatch z) h
 | @dT a kvs ea=>
  cases (show u=Value.ref a from rx)
  obtain⟨_,_,xs,_,o,es,ep,h1,h2,_⟩:=(show dy X.prog X.w H s.heap a (.dT kvs) from I.hok a _ ea)
  exact PySem.W.kia_one PySem.W.kitx_dict I.kIn ⟨o,h1,h2.1⟩ e (fun z=>nomatch z) h
 | @ins a C dx fs ea cl ha hn htk hm=>
  cases (show u=Value.ref a from rx)
  obtain⟨mA,O,_⟩:=zJ I.hok ea
  obtain⟨od,J,_⟩:=O.look
  exact PySem.W.kia_one (PySem.W.kitx_own (cl.get _) cl.hd ha hn htk hm) I.kIn J e (fun z=>nomatch z) h
end
end L2
namespace L2
open PySem PySem.Spec PyProof.Rows
structure Room (k:Nat) (A:Around):Prop where
 hd:A.handled=none
 dp:A.depth+3*k+5<recursionLimit
 un:A.units+16*k+200<cLine
theorem Room.mono{j k:Nat}{A:Around}(r:Room k A)(h:j≤k):Room j A:=⟨r.hd,by have:=r.dp;omega,by have:=r.un;omega⟩
theorem Room.deeper{k:Nat}{A:Around}(r:Room (k+1) A)(env:Env):Room k (A.deeper env):=
 ⟨r.hd,by have:=r.dp;show A.depth+1+3*k+5<_;omega,by have:=r.un;show A.units+3+16*k+200<_;omega⟩
theorem Room.depth{k:Nat}{A:Around}(r:Room k A):A.depth<recursionLimit:=by have:=r.dp;omega
def E5:TA:=fun _ H Q=>Q [] H
def Am(ta:TE)(tr:TA):TA:=fun σ H Q=>ta σ H fun x H1=>tr σ H1 fun xs H2=>Q (x::xs) H2
section
variable {X:Cx}{e:Expr}{es:List Expr}{te:TE}{t:TA}{pos:Pos}
theorem fD:PA X [] E5:=fun _ _ _ _ H Q I h=>Calls.spliced_nil ⟨[],H,I,.nil,h⟩
theorem cJ(ha:PE X e te)(hr:PA X es t)(hs:starEach (e::es) X.env=(false,eval e X.env)::starEach es X.env:=by rfl):PA X (e::es) (Am te t):=by
 intro pos pins s σ H Q I h
 rw[hs]
 show wpAny _ _ (spliced ((false,eval e X.env)::backTo pos (starEach es X.env))) _ _ s
 refine Calls.spliced_cons (thn (ha pins s σ H _ I h) fun u s1 ⟨x,H1,I1,r1,q1⟩=>?_)
 exact thn (hr pos pins s1 σ H1 _ I1 q1) fun us s2 ⟨xs,H2,I2,r2,q2⟩=>⟨x::xs,H2,I2,.cons r1 r2,q2⟩
def EZ(t:TA):TE:=fun σ H Q=>t σ H fun xs H1=>xs.length≤sizeLine∧∀p,H1 p=none→Q (.ref p) (upd H1 p (.tup xs))
def E6(t:TA):TE:=fun σ H Q=>t σ H fun xs H1=>xs.length≤sizeLine∧∀p,H1 p=none→Q (.ref p) (upd H1 p (.lst xs))
theorem Bz{x1}(h:PA X es t):PE X (.Tuple es x1 pos) (EZ t):=by
 intro pins s σ H Q I hq
 refine wpAny_Tuple_spliced (thn (h pos pins s σ H _ I hq) fun us s1 ⟨xs,H1,I1,r,z,q⟩=>⟨by rw[←r.length];exact z,?_⟩)
 have hf:H1 s1.heap.objs.size=none:=I1.hok.fresh (Nat.le_refl _)
 refine⟨.ref s1.heap.objs.size,upd H1 s1.heap.objs.size (.tup xs),I1.laid (t':=s1.toks) (fun b u e=>Heap.get?_push_of_some _ e) (Nat.le_refl _) ?_,rfl,q _ hf⟩
 exact⟨z,us,r,⟨_,Heap.get?_push_size _ rfl,rfl,_,rfl⟩⟩
theorem vX(h:PA X es t):PE X (.List es pos) (E6 t):=by
 intro pins s σ H Q I hq
 refine wpAny_List_spliced (thn (h pos pins s σ H _ I hq) fun us s1 ⟨xs,H1,I1,r,z,q⟩=>⟨by rw[←r.length];exact z,?_⟩)
 have hf:H1 s1.heap.objs.size=none:=I1.hok.fresh (Nat.le_refl _)
 refine⟨.ref s1.heap.objs.size,upd H1 s1.heap.objs.size (.lst xs),I1.laid (t':=s1.toks) (fun b u e=>Heap.get?_push_of_some _ e) (Nat.le_refl _) ?_,rfl,q _ hf⟩
 exact⟨z,us,0,r,Heap.get?_push_size _ rfl⟩
end
abbrev Sp:=List V→Hp→VK→XK→Prop
abbrev CXT:=List Env→Hp→Shared→XK→Value→Shared→Prop
structure Env0 (P:Program) (w:World) (K:PySem.W.Frag) (mg:Str→Option Value) (base:Heap) (A:Around) (outer:List Env) (s:Shared) (H:Hp):Prop where
 frames:A.frames=some outer
 mod:Mod K mg base
 bs:∀b o,base.get? b=some o→s.heap.get? b=some o∧H b=none
 bsz:base.objs.size≤s.heap.objs.size
 funs:s.heap.FunFrames base outer
 frf:∀b∈frs outer,H b=none
 hok:HOk P w H s.heap
 bare:AllBare s.gens
def CE(outer:List Env)(P:Program)(w:World)(H:Hp)(s:Shared)(Q:VK)(u:Value)(s':Shared):Prop:=
 ∃v H',s'.os=s.os∧AllBare s'.gens∧Un (frs outer) [] H H' s.heap s'.heap∧HOk P w H' s'.heap∧RelV v u∧Q v H'
def CR(CX:CXT)(outer:List Env)(P:Program)(w:World)(H:Hp)(s:Shared)(Q:VK)(E:XK)(r:Result)(s':Shared):Prop:=
 match r with
 |.ok (.ret u)=>CE outer P w H s Q u s'
 |.ok _=>False
 |.error e=>CX outer H s E e s'
structure FnOk (P:Program) (w:World) (K:PySem.W.Frag) (mg:Str→Option Value) (base:Heap) (CX:CXT) (k:Nat) (f:Addr) (fd:FuncData) (ps:List Str) (sp:Sp):Prop where
 len:∀vs H Q E,sp vs H Q E→vs.length=ps.length
 run:∀(A:Around)(outer:List Env)(s:Shared)(H:Hp)(args:Args)(us:List Value)(vs:List V)(Q:VK)(E:XK),Room k A→Env0 P w K mg base A outer s H→BindsTo s fd args (ps.zip us)→Vals vs us→sp vs H Q E →
  codeAny (model P w) A (.call (.ref f) args) (CR CX outer P w H s Q E) s
section
variable {X:Cx}{pins:List (Addr×Obj)}{σ:St}{H:Hp}{s s':Shared}
theorem Inv.env0(I:Inv X pins σ H s):Env0 X.prog X.w X.K X.mg X.base X.A X.stack s H:=
 ⟨I.ok.frames,I.ok.mod,I.bs,Nat.le_trans I.ok.bsz I.sz,I.stack,I.stkFree,I.hok,I.bare⟩
theorem Inv.after{Q:VK}{u:Value}(I:Inv X pins σ H s)(h:CE X.stack X.prog X.w H s Q u s'):EP X pins σ Q u s':=by
 obtain⟨v,H',os,bare,un,hok,r,q⟩:=h
 obtain⟨hh,g,d,t,os'⟩:=s'
 obtain rfl:os'=s.os:=os
 exact⟨v,H',I.call (h':=hh) (g':=g) (d':=d) (t':=t) (ch:=[]) un hok bare (fun b z=>absurd z (by simp)),r,q⟩
end
def C5(sp:Sp)(dvs:List V)(E:XK)(t:TA):TE:=fun σ H Q=>t σ H fun vs H1=>sp (vs++dvs) H1 Q E
def Gj(C:Addr)(m:Str)(sp:Sp)(dvs:List V)(E:XK)(ta:TE)(t:TA):TE:=fun σ H Q=>ta σ H fun x H1=>∃a dx fs,x=.ref a∧H1 a=some (.ins C dx fs)∧fs.lookup m=none ∧
 t σ H1 fun vs H2=>sp (x::(vs++dvs)) H2 Q E
def Gk(C:Addr)(sp:Sp)(dvs:List V)(E:XK)(t:TA):TE:=fun σ H Q=>t σ H fun vs H1=>∀x dx,H1 x=none→H1 dx=none→dx≠x →
 sp (.ref x::(vs++dvs)) (upd (upd H1 dx (.own x)) x (.ins C dx [])) (fun v H2=>v=.non∧Q (.ref x) H2) E
def Binds(K:PySem.W.Frag)(fd:FuncData)(ps:List Str)(ds:List Value):Prop:=
 ∀(s:Shared)(us:List Value),K.In s.heap→(us++ds).length=ps.length→BindsTo s fd ⟨us,[]⟩ (ps.zip (us++ds))
theorem Binds.all{K:PySem.W.Frag}{fd:FuncData}{ps:List Str}(h:∀us:List Value,us.length=ps.length→bindArgs fd ⟨us,[]⟩=pure (ps.zip us)):Binds K fd ps []:=fun s us _ hl=>by
 rw[List.append_nil]at hl ⊢
 exact .of_eq (h us hl)
def Passes(CX:CXT)(X:Cx)(E:XK):Prop:=∀(pins:List (Addr×Obj))(σ:St)(H:Hp)(s:Shared)(e:Value)(s':Shared),Inv X pins σ H s→CX X.stack H s E e s'→X.xe e s'
section
variable {X:Cx}{CX:CXT}{k:Nat}{f C:Addr}{fd:FuncData}{ps:List Str}{sp:Sp}{dvs:List V}{ds:List Value}{E:XK}{x m:Str}{p pos apos:Pos}{e o:Expr}{es:List Expr}{ta:TE}{t:TA}
theorem AX{pins:List (Addr×Obj)}{σ:St}{H:Hp}{s:Shared}{Q:VK}{us:List Value}{vs:List V}(F:FnOk X.prog X.w X.K X.mg X.base CX k f fd ps sp)(hr:Room k X.A)(hb:Binds X.K fd ps ds)(hd:Vals dvs ds)(hx:Passes CX X E)
  (I:Inv X pins σ H s) (r:Vals vs us) (h:sp (vs++dvs) H Q E):wpAny (model X.prog X.w) X.A (call (.ref f) us) (EP X pins σ Q) X.xe s:=by
 have r2:Vals (vs++dvs) (us++ds):=r.append hd
 have hl:(us++ds).length=ps.length:=by rw[←r2.length];exact F.len _ _ _ _ h
 refine wpAny_call (codeAny_mono (F.run X.A X.stack s H ⟨us,[]⟩ (us++ds) (vs++dvs) Q E hr I.env0 (hb s us I.kIn hl) r2 h) fun r s' hq=>?_)
 cases r with
 |error e=>exact hx pins σ H s e s' I hq
 |ok fl=>
  cases fl with
  |ret u=>exact I.after hq
  |next=>exact False.elim hq
  |brk=>exact False.elim hq
  |cont=>exact False.elim hq
theorem yZ(F:FnOk X.prog X.w X.K X.mg X.base CX k f fd ps sp)(hr:Room k X.A)(hg:Gl X x)(hm:X.mg x=some (.ref f))(hk:PySem.W.keepIn X.K (.ref f)=true)(hb:Binds X.K fd ps ds)(hd:Vals dvs ds)(hx:Passes CX X E)
  (ha:PA X (e::es) t) (hdb:(x==("__debug__":Str))=false:=by decide) (he:starEach (e::es) X.env=(false,eval e X.env)::starEach es X.env:=by rfl) (hpl:(backTo pos (starEach es X.env)).any (·.1)=false:=by rfl):
  PE X (.Call (.Name x p) (e::es) [] pos) (C5 sp dvs E t):=by
 intro pins s σ H Q I h
 refine wpAny_Call_Name_kw (sJ I hg hm ?_ hdb)
 refine PySem.W.callWith_K (h₀:=X.base) I.ok.mod.kin hk (thn (ha pos pins s σ H _ I h) fun us s1 ⟨vs,H1,I1,r,q⟩=>⟨I1.kIn,?_⟩) he hpl
 exact AX F hr hb hd hx I1 r q
structure Mk (K:PySem.W.Frag) (C f:Addr):Prop where
 makes:PySem.W.makesIn K C=true
 init:PySem.W.findIn K (.ref C) "__init__" = some (some (.ref f))
 fn:PySem.W.isFn K (.ref f)=true
 kp:PySem.W.keepIn K (.ref C)=true
end
section
variable {X:Cx}{CX:CXT}{k:Nat}{f C:Addr}{fd:FuncData}{ps ks:List Str}{sp:Sp}{E:XK}{x m:Str}{p pos apos kpos:Pos}{e o:Expr}{es:List Expr}{kws:List Keyword}{te ta:TE}{t tk:TA}{nm:Option Str}
structure KBinds (K:PySem.W.Frag) (fd:FuncData) (ps ks:List Str) (g:List Value→List Value→List Value) (gV:List V→List V→List V):Prop where
 to:∀(s:Shared)(us ws:List Value),K.In s.heap→(g us ws).length=ps.length→BindsTo s fd ⟨us,ks.zip ws⟩ (ps.zip (g us ws))
 rel:∀{vs:List V}{us:List Value}{zs:List V}{ws:List Value},Vals vs us→Vals zs ws→Vals (gV vs zs) (g us ws)
variable {g:List Value→List Value→List Value}{gV:List V→List V→List V}
end
structure FnScope (N P:List Str) (sc:Scope):Prop where
 kind:sc.kind=.function
 co:sc.isCoroutine=false
 gen:sc.isGenerator=false
 nd:N.Nodup
 pre:N.take P.length=P
 par:∀x∈P,sc.names.lookup x=some .local∨sc.names.lookup x=some .cell
 nofree:∀y∈sc.names,y.2≠.free
theorem nE{kindOf:Str→Option NameKind}{x:Str}:∀{binds:List (Str×Value)}{m:Str→Option Value},(∀v,(x,v)∉binds)→bindL kindOf binds m x=m x
 |[],_,_=>rfl
 | (n,v)::r,m,h=>by
  unfold bindL
  rw[nE fun w hw=>h w (List.mem_cons_of_mem _ hw)]
  split
  ·have:x≠n:=by rintro rfl;exact h v List.mem_cons_self
   simp[this]
  ·rfl
theorem nG{kindOf:Str→Option NameKind}{x:Str}:∀{binds:List (Str×Value)}{m:Str→Option Value},(∀v,(x,v)∉binds)→bindC kindOf binds m x=m x
 |[],_,_=>rfl
 | (n,v)::r,m,h=>by
  unfold bindC
  rw[nG fun w hw=>h w (List.mem_cons_of_mem _ hw)]
  split
  ·rfl
  ·have:x≠n:=by rintro rfl;exact h v List.mem_cons_self
   simp[this]
theorem nF{kindOf:Str→Option NameKind}{x:Str}{v:Value}:∀{P:List Str}{vs:List Value}{i:Nat}{m:Str→Option Value},P.Nodup→P[i]? = some x→vs[i]? = some v→kindOf x=some .local →
  bindL kindOf (P.zip vs) m x=some v
 |[],_,_,_,_,h,_,_=>by simp at h
 |_::_,[],_,_,_,_,h,_=>by simp at h
 |p::P,w::vs,0,m,nd,h1,h2,hk=>by
  simp at h1 h2;subst h1;subst h2
  show bindL kindOf ((p,w)::P.zip vs) m p=_
  unfold bindL
  rw[nE fun v hv=>(List.nodup_cons.mp nd).1 (List.of_mem_zip hv).1,if_pos hk]
  simp
 |p::P,w::vs,i+1,m,nd,h1,h2,hk=>by
  show bindL kindOf ((p,w)::P.zip vs) m x=_
  unfold bindL
  exact nF (i:=i) (List.nodup_cons.mp nd).2 (by simpa using h1) (by simpa using h2) hk
theorem nH{kindOf:Str→Option NameKind}{x:Str}{v:Value}:∀{P:List Str}{vs:List Value}{i:Nat}{m:Str→Option Value},P.Nodup→P[i]? = some x→vs[i]? = some v→kindOf x≠some .local →
  bindC kindOf (P.zip vs) m x=some v
 |[],_,_,_,_,h,_,_=>by simp at h
 |_::_,[],_,_,_,_,h,_=>by simp at h
 |p::P,w::vs,0,m,nd,h1,h2,hk=>by
  simp at h1 h2;subst h1;subst h2
  show bindC kindOf ((p,w)::P.zip vs) m p=_
  unfold bindC
  rw[nG fun v hv=>(List.nodup_cons.mp nd).1 (List.of_mem_zip hv).1,if_neg hk]
  simp
 |p::P,w::vs,i+1,m,nd,h1,h2,hk=>by
  show bindC kindOf ((p,w)::P.zip vs) m x=_
  unfold bindC
  exact nH (i:=i) (List.nodup_cons.mp nd).2 (by simpa using h1) (by simpa using h2) hk
def start(N:List Str)(vs:List V):St:=vs.map some++List.replicate (N.length-vs.length) none
def mQ(CX:CXT)(P:Program)(w:World)(K:PySem.W.Frag)(mg:Str→Option Value)(base:Heap)(N:List Str)(qual:Str)(scope:Scope)(f:Addr)(cd:Value)(A:Around)(outer:List Env)(s:Shared)(H:Hp)(E:XK):Cx where
 prog:=P
 w:=w
 K:=K
 mg:=mg
 base:=base
 A:=A.deeper (envOfC qual scope s.heap.objs.size f cd)
 N:=N
 s₀:=s
 H₀:=H
 env:=envOfC qual scope s.heap.objs.size f cd
 outer:=outer
 stack:=envOfC qual scope s.heap.objs.size f cd::outer
 ex:=[]
 calm:=true
 fn:=fun _=>true
 pn:=[]
 xe:=fun e s'=>wpAny (model P w) (A.deeper (envOfC qual scope s.heap.objs.size f cd)) (leaving (envOfC qual scope s.heap.objs.size f cd) e) (fun _ s''=>CX outer H s E e s'') (fun e' s''=>CX outer H s E e' s'') s'
theorem qB{sc:Scope}{n:Nat}{x:Str}(h:sc.names.lookup x=some .cell):∃c,(cellsFrom n sc.names []).lookup x=some c:=by
 have q:=PySem.W.cellsFrom_some sc.names n [] (.inl h)
 exact Option.isSome_iff_exists.mp q
theorem uD{CX:CXT}{P:Program}{w:World}{K:PySem.W.Frag}{mg:Str→Option Value}{base:Heap}{N ps:List Str}{qual:Str}{scope:Scope}{f:Addr}{cd:Value}{A:Around}{outer:List Env}{s s1:Shared}{H:Hp}{E:XK}{us:List Value}{vs:List V}
  (S:FnScope N ps scope) (hd:A.handled=none) (e0:Env0 P w K mg base A outer s H) (hl:vs.length=ps.length) (r:Vals vs us)
  (x:InCallC s s.heap.objs.size (bindL (envOfC qual scope s.heap.objs.size f cd).kindOf (ps.zip us) fun _=>none) (cellsFrom (s.heap.objs.size+1) scope.names []) (bindC (envOfC qual scope s.heap.objs.size f cd).kindOf (ps.zip us) fun _=>none) s1):
  Inv (mQ CX P w K mg base N qual scope f cd A outer s H E) [] (start N vs) H s1:=by
 have hpl:ps.length≤N.length:=by have:=congrArg List.length S.pre;rw[List.length_take]at this;omega
 obtain⟨h1,tk,rfl,hk⟩:=x.done
 have noA:∀b:Addr,b∉(mQ CX P w K mg base N qual scope f cd A outer s H E).ex:=fun b z=>absurd (show b∈([]:List Addr) from z) (by simp)
 refine⟨⟨e0.mod,S.kind,rfl,rfl,Nat.le_refl _,fun y z c h1 h2=>?_,fun y hy=>?_,fun y c _ h=>?_,fun _=>hd,Around.frames_deeper e0.frames,.inr ⟨rfl,rfl⟩,fun b z=>absurd z (noA b),e0.bs,e0.bsz,fun b _ _=>noA b,fun b z=>absurd z (noA b),e0.funs,e0.frf⟩,
  rfl,e0.bare,Un.kept hk,⟨_,x.toInCall.ns,fun i y v h1 h2 h3=>?_⟩,fun y c h=>⟨_,x.cell y c h⟩,e0.hok.fresh (Nat.le_refl _),fun y c h=>?_,fun p hp=>absurd (show p∈([]:List (Addr×Obj)) from hp) (by simp),e0.hok.kept hk,?_⟩
 ·exact name_of_addr x.apart (PySem.mem_of_lookup h1) (PySem.mem_of_lookup h2)
 ·have hy:scope.names.lookup y=some .cell∨scope.names.lookup y=some .free:=hy
  rcases hy with hy|hy
  ·exact qB hy
  ·exact absurd rfl (S.nofree _ (PySem.mem_of_lookup hy))
 ·exact Nat.le_of_lt (x.above y c (PySem.mem_of_lookup h))
 ·have hi:i<vs.length:=by
   unfold start at h2
   by_cases hi:i<vs.length
   ·exact hi
   ·rw[List.getElem?_append_right (by simpa using hi)]at h2
    rw[List.getElem?_replicate]at h2
    split at h2<;>cases h2
  have ha:vs[i]? = some v:=by
   unfold start at h2
   rw[List.getElem?_append_left (by simpa using hi),List.getElem?_map]at h2
   cases e:vs[i]? with
   |none=>rw[e]at h2;cases h2
   |some a=>rw[e]at h2;cases h2;rfl
  obtain⟨u,hu,rv⟩:=r.get ha
  have hp:ps[i]? = some y:=by
   rw[←S.pre,List.getElem?_take_of_lt (by omega)];exact h1
  have ndP:ps.Nodup:=by rw[←S.pre];exact S.nd.sublist (List.take_sublist _ _)
  refine⟨u,rv,?_⟩
  rcases S.par y (List.mem_of_getElem? hp) with k|k
  ·exact .inl ⟨k,nF ndP hp hu k⟩
  ·obtain⟨c,e⟩:=qB (n:=s.heap.objs.size+1) k
   refine .inr ⟨.inl k,c,e,?_⟩
   have q:=x.cell y c e
   rw[nH ndP hp hu (by show scope.names.lookup y≠_;rw[k];decide)]at q
   exact q
 ·exact e0.hok.fresh (Nat.le_of_lt (x.above y c (PySem.mem_of_lookup h)))
 ·unfold start
  show _=N.length
  rw[List.length_append,List.length_map,List.length_replicate]
  omega
theorem Ea{CX:CXT}{P:Program}{w:World}{K:PySem.W.Frag}{mg:Str→Option Value}{base:Heap}{k:Nat}{f:Addr}{name qual:Str}{params:Arguments}{body:List Stmt}{scope:Scope}{dV kV doc pm cdv ct oc:Value}{an od:Option Addr}
  {osl:Array (Option Value)} {N ps:List Str} {sp:Sp} (lk:K.lookup f=some ⟨oc,od,.func (PySem.W.fnOf name qual params body scope dV kV doc pm an cdv ct),osl⟩) (hcd:PySem.W.codeIn K cdv qual=true) (S:FnScope N ps scope)
  (len:∀vs H Q E,sp vs H Q E→vs.length=ps.length)
  (hbody:∀(A:Around)(outer:List Env)(s:Shared)(H:Hp)(vs:List V)(Q:VK)(E:XK),Room k (A.deeper (envOfC qual scope s.heap.objs.size f cdv))→sp vs H Q E →
   ∃t,PSs (mQ CX P w K mg base N qual scope f cdv A outer s H E) body t∧t { nx:=fun _ H'=>Q .non H',rt:=Q } (start N vs) H):
  FnOk P w K mg base CX (k+1) f (PySem.W.fnOf name qual params body scope dV kV doc pm an cdv ct) ps sp:=by
 refine⟨len,fun A outer s H args us vs Q E hr e0 hb r hsp=>?_⟩
 have hl:=len _ _ _ _ hsp
 have KX:K.In s.heap:=e0.mod.kin.keeps fun b o e=>(e0.bs b o e).1
 have lim:s.heap.NoLimit:=e0.mod.nolimit.keeps fun b o e=>(e0.bs b o e).1
 have hkind:∀y∈ps.zip us,scope.names.lookup y.1=some .local∨(scope.names.lookup y.1=some .cell∧((cellsFrom (s.heap.objs.size+1) scope.names []).lookup y.1).isSome=true):=fun ⟨n,v⟩ hy=>by
  rcases S.par n (List.of_mem_zip hy).1 with q|q
  ·exact .inl q
  ·exact .inr ⟨q,PySem.W.cellsFrom_some _ _ _ (.inl q)⟩
 refine codeAny_call_function hr.depth (KX _ _ lk) rfl S.co S.gen rfl (PySem.W.codeRec_of KX hcd) (hb _ _ _ _ ?_)
 refine wpAny_newFunctionEnv_cells S.kind hkind fun env he s1 x=>?_
 subst he
 refine⟨lim.keeps x.toInCall.keep,codeAny_func ?_⟩
 obtain⟨t,ht,hq⟩:=hbody A outer s H vs Q E (hr.deeper _) hsp
 have I:Inv (mQ CX P w K mg base N qual scope f cdv A outer s H E) [] (start N vs) H s1:=uD S hr.hd e0 hl r x
 refine wpAny_mono (ht [] s1 (start N vs) H _ I hq) (fun fl s' hs=>?_) fun e s' hs=>hs
 have fin:∀{σ':St}{H':Hp}{v:V}{u:Value},Inv (mQ CX P w K mg base N qual scope f cdv A outer s H E) [] σ' H' s'→RelV v u→Q v H'→CE outer P w H s Q u s':=
  fun {σ' H' v u} J rv q=>⟨v,H',J.os,J.bare,J.base,J.hok,rv,q⟩
 cases fl with
 |ret u=>
  obtain⟨v,σ',H',J,rv,q⟩:=hs
  exact fin J rv q
 |next=>
  obtain⟨σ',H',J,q⟩:=hs
  exact fin (v:=V.non) (u:=Value.none) J rfl q
 |brk=>
  obtain⟨_,_,_,q⟩:=hs
  exact False.elim q
 |cont=>
  obtain⟨_,_,_,q⟩:=hs
  exact False.elim q
end L2
namespace L2
open PySem PySem.Spec PyProof.Rows
section
variable {X:Cx}{x:Str}{p pos:Pos}{e:Expr}{es:List Expr}{t:TA}{id T:String}{r:List V→Hp→VK→Prop}
def tCB(r:List V→Hp→VK→Prop)(t:TA):TE:=fun σ H Q=>t σ H fun vs H1=>r vs H1 Q
theorem lD (hc:gv X (.builtin id) r) (hg:Gl X x) (hm:X.mg x=none) (hv:bootBuiltins x=some (.builtin id)) (ha:PA X (e::es) t) (hn:x≠"__name__":=by decide) (hdb:(x==("__debug__":Str))=false:=by decide)
  (he:starEach (e::es) X.env=(false,eval e X.env)::starEach es X.env:=by rfl) (hpl:(backTo pos (starEach es X.env)).any (·.1)=false:=by rfl):PE X (.Call (.Name x p) (e::es) [] pos) (tCB r t):=by
 intro pins s σ H Q I h
 refine wpAny_Call_Name_kw (jc I hg hm hv ?_ hn hdb)
 exact PyProof.Rows.callWith_builtin1 (thn (ha pos pins s σ H _ I h) fun us s1 ⟨vs,H1,I1,r1,q1⟩=>hc pins s1 σ H1 vs us Q I1 r1 q1) he hpl
theorem uh (hc:gv X (.type T) r) (hg:Gl X x) (hm:X.mg x=none) (hv:bootBuiltins x=some (.type T)) (ha:PA X (e::es) t) (hn:x≠"__name__":=by decide) (hdb:(x==("__debug__":Str))=false:=by decide)
  (he:starEach (e::es) X.env=(false,eval e X.env)::starEach es X.env:=by rfl) (hpl:(backTo pos (starEach es X.env)).any (·.1)=false:=by rfl):PE X (.Call (.Name x p) (e::es) [] pos) (tCB r t):=by
 intro pins s σ H Q I h
 refine wpAny_Call_Name_kw (jc I hg hm hv ?_ hn hdb)
 exact PyProof.Rows.callWith_type1 (thn (ha pos pins s σ H _ I h) fun us s1 ⟨vs,H1,I1,r1,q1⟩=>hc pins s1 σ H1 vs us Q I1 r1 q1) he hpl
end
end L2
namespace HT
open PySem PyProof.Rows
section
open PySem.SeqAt
open PySem.AutoSeq1 (wpAny_loadPart')
open PySem.MeetsSeq PySem.MeetsSeq2 PySem.MeetsSeq3
end
section
variable {prog:Program}{w:World}{A:Around}{E:Value→Shared→Prop}{s:Shared}
def sIx(n d:Nat):Option Int→Nat
 |none=>d
 |some v=>if v<0 then (v+(n:Int)).toNat else min v.toNat n
theorem C9(n d:Nat):sIx n d none=d:=rfl
theorem AV(n d:Nat)(hd:d≤n)(o:Option Int):sIx n d o≤n:=by
 cases o with
 |none=>exact hd
 |some v=>
  show(if v<0 then (v+(n:Int)).toNat else min v.toNat n)≤n
  by_cases hv:v<0
  ·rw[if_pos hv];omega
  ·rw[if_neg hv];exact Nat.min_le_right _ _
theorem tq(v:Int)(n d:Nat):(if v<0 then max (v+(n:Int)) 0 else min v (n:Int))=((sIx n d (some v):Nat):Int):=by
 show(if v<0 then max (v+(n:Int)) 0 else min v (n:Int))=(((if v<0 then (v+(n:Int)).toNat else min v.toNat n):Nat):Int)
 by_cases hv:v<0
 ·simp only[if_pos hv];omega
 ·simp only[if_neg hv];omega
theorem r9(lo hi:Option Int)(n:Nat):Builtin.Slice.sliceAdjust lo hi 1 (n:Int)=(((sIx n 0 lo:Nat):Int),((sIx n n hi:Nat):Int)):=by
 have h1:¬((1:Int)<0):=by omega
 unfold Builtin.Slice.sliceAdjust
 simp only[h1,if_false]
 refine Prod.ext ?_ ?_
 ·cases lo with
  |none=>rfl
  |some v=>exact tq v n 0
 ·cases hi with
  |none=>rfl
  |some v=>exact tq v n n
theorem rk(i j:Nat):Builtin.Slice.slicePlaces (i:Int) (j:Int) 1=j-i:=by
 unfold Builtin.Slice.slicePlaces
 have h1:(1:Int)>0:=by omega
 simp only[h1,if_true,Int.ediv_one]
 split<;>omega
theorem lg{v:Value}{o:Option Int}{Q:Option Int→Shared→Prop}(p:IsPart v o)(h:Q o s):wpAny (model prog w) A (Builtin.Slice.slicePartIndex v) Q E s:=by
 cases p with
 |none=>exact slicePart_none h
 |int i t=>exact slicePart_int h
theorem jO{sl:Addr}{vl vu:Value}{lo hi:Option Int}{n:Nat}{Q:Int×Int×Nat→Shared→Prop}(hs:s.heap.IsSliceOf sl vl vu .none)(pl:IsPart vl lo)(pu:IsPart vu hi)
  (h:Q (((sIx n 0 lo:Nat):Int),1,sIx n n hi-sIx n 0 lo) s):wpAny (model prog w) A (Builtin.Slice.sliceApplied (.ref sl) (pure (n:Int))) Q E s:=by
 obtain⟨os,hos,hcs,hds⟩:=id hs
 unfold Builtin.Slice.sliceApplied Builtin.Slice.sliceFields
 refine wpAny_bind (wpAny_bind (wpAny_field hos hds (x:=vl) rfl (wpAny_bind (wpAny_field hos hds (x:=vu) rfl (wpAny_bind (wpAny_field hos hds (x:=.none) rfl (wpAny_pure ?_)))))))
 refine wpAny_bind (slicePart_none ?_)
 show wpAny _ _ (if ((1:Int)==0)=true then _ else _) _ _ s
 rw[if_neg (by decide)]
 refine wpAny_bind (lg pl (wpAny_bind (lg pu (wpAny_bind (wpAny_pure ?_)))))
 show wpAny _ _ (match Builtin.Slice.sliceAdjust lo hi 1 (n:Int) with | (lo,hi)=>pure (lo,(1:Int),Builtin.Slice.slicePlaces lo hi 1)) _ _ s
 rw[r9 lo hi n]
 show wpAny _ _ (pure (((sIx n 0 lo:Nat):Int),(1:Int),Builtin.Slice.slicePlaces ((sIx n 0 lo:Nat):Int) ((sIx n n hi:Nat):Int) 1)) _ _ s
 rw[rk]
 exact wpAny_pure h
theorem vT(xs:Array Value)(i k:Nat):((List.range k).filterMap fun (m:Nat)=>xs[((i:Int)+(m:Int)*1).toNat]?).toArray=((xs.toList.drop i).take k).toArray:=by
 have e:(fun (m:Nat)=>xs[((i:Int)+(m:Int)*1).toNat]?)=fun m=>xs[i+m]?:=by
  funext m
  have:((i:Int)+(m:Int)*1).toNat=i+m:=by omega
  rw[this]
 rw[e]
 have:=pick_run xs i k
 rw[List.filterMap_map]at this
 have e2:((fun x=>xs[x]?)∘fun x=>i+x)=fun m=>xs[i+m]?:=rfl
 rw[e2]at this
 rw[this]
theorem jy{t sl:Addr}{items:Array Value}{vl vu:Value}{lo hi:Option Int}{Q:Value→Shared→Prop}(ht:IsTup s.heap t items)(hs:s.heap.IsSliceOf sl vl vu .none)(pl:IsPart vl lo)(pu:IsPart vu hi)
  (hw:¬(sIx items.size 0 lo=0∧sIx items.size items.size hi=items.size))
  (h:Q (.ref s.heap.objs.size) { s with heap:=s.heap.push { cls:=.type "tuple",data:=.seq ((items.toList.drop (sIx items.size 0 lo)).take (sIx items.size items.size hi-sIx items.size 0 lo)).toArray } })
  (hsz:items.size≤sizeLine):wpAny (model prog w) A (getItem (.ref t) (.ref sl)) Q E s:=by
 have htake:sizeOk (.seq ((items.toList.drop (sIx items.size 0 lo)).take (sIx items.size items.size hi-sIx items.size 0 lo)).toArray):=by
  show((items.toList.drop (sIx items.size 0 lo)).take (sIx items.size items.size hi-sIx items.size 0 lo)).toArray.size≤sizeLine
  rw[List.size_toArray,List.length_take,List.length_drop,Array.length_toList]
  omega
 have hj:sIx items.size items.size hi≤items.size:=AV _ _ (Nat.le_refl _) hi
 obtain⟨os,hos,hcs,hds⟩:=id hs
 have hTs:s.TypeIs (.ref sl) "slice":=⟨os,hos,hcs⟩
 unfold getItem
 try with_reducible refine wpAny_holding ?_
 first | refine wpAny_bind (wpAny_pure ?_) | skip
 refine wpAny_bind (wpAny_sequenceKey ht.typeIs (by decide) ?_)
 refine wpAny_bind (wpAny_callSpecial?_slot (name:=Str.ofString "__getitem__") ht.typeIs PyProof.Rows.slot_tuple_getitem
  (wpAny_call_entry PyProof.Rows.slot_tuple_getitem ht.typeIs entry_tuple_getitem ?_ (args_tuple_getitem _ _)))
 show wpAny _ _ (Builtin.Tuple.tupleItemsOf (.ref t) >>= _) _ _ s
 refine wpAny_bind (tupleItemsOf_ ht ?_)
 refine wpAny_bind (wpAny_typeOf hTs ?_)
 rw[if_pos (by decide)]
 refine wpAny_bind (jO hs pl pu ?_)
 have hno:¬((((sIx items.size 0 lo:Nat):Int)==0&&(1:Int)==1&&(sIx items.size items.size hi-sIx items.size 0 lo)==items.size)=true):=by
  intro q
  rw[Bool.and_eq_true,Bool.and_eq_true]at q
  have q1:((sIx items.size 0 lo:Nat):Int)=0:=eq_of_beq q.1.1
  have q2:sIx items.size items.size hi-sIx items.size 0 lo=items.size:=eq_of_beq q.2
  exact hw ⟨by omega,by omega⟩
 show wpAny _ _ (if (((sIx items.size 0 lo:Nat):Int)==0&&(1:Int)==1&&(sIx items.size items.size hi-sIx items.size 0 lo)==items.size)=true then _ else _) _ _ s
 rw[if_neg hno,vT]
 first
  |exact wpAny_bind (m:=Builtin.Tuple.tupleExact _) (wpAny_newObj_type (wpAny_pure ⟨_,rfl,wpAny_pure h⟩) htake)
  |exact wpAny_bind (m:=Builtin.Tuple.tupleExact _) (wpAny_newObj_type (wpAny_bind (wpAny_pure (wpAny_pure ⟨_,rfl,wpAny_pure h⟩))) htake)
  |exact wpAny_bind (wpAny_bind (m:=Builtin.Tuple.tupleExact _) (wpAny_newObj_type (wpAny_pure (wpAny_pure ⟨_,rfl,wpAny_pure h⟩)) htake))
  |exact wpAny_bind (wpAny_bind (m:=Builtin.Tuple.tupleExact _) (wpAny_newObj_type (wpAny_pure ⟨_,rfl,wpAny_pure h⟩) htake))
end
end HT
namespace L2
open PySem PySem.Spec PyProof.Rows
abbrev TO:=St→Hp→(Option Int→Hp→Prop)→Prop
def PO(X:Cx)(e:Option Expr)(t:TO):Prop:=
 ∀(pins:List (Addr×Obj))(s:Shared)(σ:St)(H:Hp)(Q:Option Int→Hp→Prop),Inv X pins σ H s→t σ H Q →
  wpAny (model X.prog X.w) X.A (evalPart e X.env) (fun u s'=>∃o H',Inv X pins σ H' s'∧IsPart u o∧Q o H') X.xe s
def yn:TO:=fun _ H Q=>Q none H
def CZ(t:TE):TO:=fun σ H Q=>t σ H fun x H1=>∃i,x=.int i∧Q (some i) H1
section
variable {X:Cx}{e:Expr}{te:TE}{lo hi:Option Expr}{tl th:TO}{pos p2:Pos}
theorem yW:PO X none yn:=by
 intro pins s σ H Q I h
 rw[evalPart_none]
 exact wpAny_pure ⟨none,H,I,.none,h⟩
theorem yV(h:PE X e te):PO X (some e) (CZ te):=by
 intro pins s σ H Q I hw
 rw[evalPart_some]
 refine thn (h pins s σ H _ I hw) fun u s1 ⟨x,H1,I1,r1,q1⟩=>?_
 obtain⟨i,rfl,q⟩:=q1
 obtain⟨t,rfl⟩:=r1
 exact⟨some i,H1,I1,.int i t,q⟩
def SlR(X:Cx)(r:V→Option Int→Option Int→Hp→VK→Prop):Prop:=
 ∀(pins:List (Addr×Obj))(s:Shared)(σ:St)(H:Hp)(x:V)(v vl vu:Value)(lo hi:Option Int)(sl:Addr)(Q:VK),Inv X pins σ H s→RelV x v→s.heap.IsSliceOf sl vl vu .none→IsPart vl lo→IsPart vu hi→r x lo hi H Q →
  ∃T id,typeLookup (.type T) "__getitem__" = pure (some (.builtin id))∧s.TypeIs v T∧wpAny (model X.prog X.w) X.A (getItem v (.ref sl)) (EP X pins σ Q) X.xe s
theorem SlR.or{r r':V→Option Int→Option Int→Hp→VK→Prop}(h:SlR X r)(h':SlR X r'):SlR X (fun x lo hi H Q=>r x lo hi H Q∨r' x lo hi H Q):=by
 intro pins s σ H x v vl vu lo hi sl Q I rx hs pl pu q
 rcases q with q|q
 ·exact h pins s σ H x v vl vu lo hi sl Q I rx hs pl pu q
 ·exact h' pins s σ H x v vl vu lo hi sl Q I rx hs pl pu q
def tSl(r:V→Option Int→Option Int→Hp→VK→Prop)(te:TE)(tl th:TO):TE:=fun σ H Q=>te σ H fun x H1=>tl σ H1 fun l H2=>th σ H2 fun u H3=>r x l u H3 Q
theorem vW{r:V→Option Int→Option Int→Hp→VK→Prop}(hr:SlR X r)(he:PE X e te)(hl:PO X lo tl)(hu:PO X hi th):PE X (.Subscript e (.Slice lo hi none p2) pos) (tSl r te tl th):=by
 intro pins s σ H Q I h
 refine Subscript_ (thn (he pins s σ H _ I h) fun v s1 ⟨x,H1,I1,r1,q1⟩=>?_)
 refine wpAny_Slice (thn (hl pins s1 σ H1 _ I1 q1) fun vl s2 ⟨l,H2,I2,pl,q2⟩=>thn (hu pins s2 σ H2 _ I2 q2) fun vu s3 ⟨u,H3,I3,pu,q3⟩=>?_)
 rw[evalPart_none]
 refine wpAny_pure ?_
 have I4:Inv X pins σ H3 { s3 with heap:=s3.heap.push { cls:=.type "slice",data:=.fields #[vl,vu,.none] } }:=I3.kept (t':=s3.toks) fun b ob q=>Heap.get?_push_of_some _ q
 obtain⟨T,id,hT,ht,hg⟩:=hr pins { s3 with heap:=s3.heap.push { cls:=.type "slice",data:=.fields #[vl,vu,.none] } } σ H3 x v vl vu l u s3.heap.objs.size Q I4 r1 (Heap.IsSliceOf.new ..) pl pu q3
 show wpAny (model X.prog X.w) X.A (subscriptTail e (.Slice lo hi none p2) v (.ref s3.heap.objs.size)) (EP X pins σ Q) X.xe { s3 with heap:=s3.heap.push { cls:=.type "slice",data:=.fields #[vl,vu,.none] } }
 exact tail_any (ops:=[.ref s3.heap.objs.size,v]) ht hT hg (by with_unfolding_all rfl)
def qx(xs:List V)(lo hi:Option Int):List V:=(xs.drop (HT.sIx xs.length 0 lo)).take (HT.sIx xs.length xs.length hi-HT.sIx xs.length 0 lo)
theorem ko(xs:List V)(lo hi:Option Int):(qx xs lo hi).length≤xs.length:=by
 unfold qx
 rw[List.length_take,List.length_drop]
 omega
def Fc(K:PySem.W.Frag):V→Option Int→Option Int→Hp→VK→Prop:=fun x lo hi H Q=>∃a xs,x=.ref a∧SqT K H a xs ∧
 ¬(HT.sIx xs.length 0 lo=0∧HT.sIx xs.length xs.length hi=xs.length)∧∀p,H p=none→Q (.ref p) (upd H p (.tup (qx xs lo hi)))
theorem AR:SlR X (Fc X.K):=by
 intro pins s σ H x v vl vu lo hi sl Q I rx hs pl pu h
 obtain⟨a,xs,rfl,hx,hw,q⟩:=h
 cases rx
 obtain⟨its,r,ht,hz⟩:=I.tuple hx
 have hlen:its.toArray.size=xs.length:=by rw[List.size_toArray];exact r.length.symm
 refine⟨"tuple",_,PyProof.Rows.slot_tuple_getitem.lookup,ht.typeIs,?_⟩
 refine HT.jy ht hs pl pu (by rw[hlen];exact hw) ?_ (by rw[hlen];exact hz)
 rw[hlen]
 refine⟨.ref s.heap.objs.size,_,I.laid (t':=s.toks) (o:=.tup (qx xs lo hi)) (fun b ob q=>Heap.get?_push_of_some _ q) (Nat.le_refl _) ?_,rfl,q _ (I.hok.fresh (Nat.le_refl _))⟩
 exact⟨Nat.le_trans (ko xs lo hi) hz,_,(r.drop (HT.sIx xs.length 0 lo)).take (HT.sIx xs.length xs.length hi-HT.sIx xs.length 0 lo),IsTup.new _ _⟩
end
end L2
namespace L2
open PySem PySem.Spec PyProof.Rows
def ixN(n:Nat)(i:Int):Option Nat:=if 0≤i then (if i<n then some i.toNat else none) else if -(n:Int)≤i then some (i+n).toNat else none
def atI{α:Type}(xs:List α)(i:Int):Option α:=(ixN xs.length i).bind fun j=>xs[j]?
theorem zG{n:Nat}{i:Int}{j:Nat}(h:ixN n i=some j):seqIndex? i n=some j∧j<n∧-(n:Int)≤i∧i<n:=by
 unfold ixN at h
 by_cases h0:0≤i
 ·rw[if_pos h0]at h
  by_cases h1:i<n
  ·rw[if_pos h1]at h
   have e:i.toNat=j:=Option.some.inj h
   exact⟨by rw[seqIndex_of h0 h1,e],by omega,by omega,h1⟩
  ·rw[if_neg h1]at h;cases h
 ·rw[if_neg h0]at h
  by_cases h1:-(n:Int)≤i
  ·rw[if_pos h1]at h
   have e:(i+n).toNat=j:=Option.some.inj h
   exact⟨by rw[seqIndex_neg (by omega) h1,e],by omega,h1,by omega⟩
  ·rw[if_neg h1]at h;cases h
theorem pd{α:Type}{xs:List α}{i:Int}{v:α}(h:atI xs i=some v):∃j,seqIndex? i xs.length=some j∧xs[j]? = some v∧j<xs.length∧-(xs.length:Int)≤i∧i<xs.length:=by
 unfold atI at h
 cases e:ixN xs.length i with
 |none=>rw[e]at h;cases h
 |some j=>
  rw[e]at h
  obtain⟨h1,h2,h3,h4⟩:=zG e
  exact⟨j,h1,h,h2,h3,h4⟩
theorem Ad{α:Type}{xs:List α}{j:Nat}{v:α}(h:xs[j]? = some v):atI xs (j:Int)=some v:=by
 have hj:j<xs.length:=(List.getElem?_eq_some_iff.mp h).1
 have e:ixN xs.length (j:Int)=some j:=by
  unfold ixN
  rw[if_pos (by omega),if_pos (by omega)];simp
 unfold atI;rw[e];exact h
def kW(b:Expr):Prop:=∀o i,subscripted b false o i=operate [o,i] (getItem o i)
def IxR(X:Cx)(r:R2):Prop:=
 ∀(value slice:Expr)(pins:List (Addr×Obj))(s:Shared)(σ:St)(H:Hp)(x y:V)(v u:Value)(Q:VK),Inv X pins σ H s→RelV x v→RelV y u→r x y H Q →
  subscripted slice false v u=operate [v,u] (getItem v u)→wpAny (model X.prog X.w) X.A (subscriptTail value slice v u) (EP X pins σ Q) X.xe s
def MtR(X:Cx)(id:String)(r:V→List V→Hp→VK→Prop):Prop:=
 ∀(pins:List (Addr×Obj))(s:Shared)(σ:St)(H:Hp)(x:V)(xs:List V)(v:Value)(us:List Value)(Q:VK),Inv X pins σ H s→RelV x v→Vals xs us→r x xs H Q →
  wpAny (model X.prog X.w) X.A (call (.builtin id) (v::us)) (EP X pins σ Q) X.xe s
section
variable {X:Cx}{a b:Expr}{ta tb:TE}{pos:Pos}
theorem IxR.or{r r':R2}(h:IxR X r)(h':IxR X r'):IxR X (fun x y H Q=>r x y H Q∨r' x y H Q):=by
 intro value slice pins s σ H x y v u Q I rx ry q hs
 rcases q with q|q
 ·exact h value slice pins s σ H x y v u Q I rx ry q hs
 ·exact h' value slice pins s σ H x y v u Q I rx ry q hs
theorem Ap{r:R2}(hr:IxR X r)(ha:PE X a ta)(hb:PE X b tb)(hs:kW b):PE X (.Subscript a b pos) (tOp r ta tb):=by
 intro pins s σ H Q I h
 exact Subscript_ (CG ha hb I h fun v u s2 x y H2 I2 rx ry q=>hr a b pins s2 σ H2 x y v u Q I2 rx ry q (hs _ _))
def Df(K:PySem.W.Frag):R2:=fun x y H Q=>∃p xs i v,x=.ref p∧y=.int i∧SqL K H p xs∧atI xs i=some v∧Q v H
def Dd(K:PySem.W.Frag):R2:=fun x y H Q=>∃p xs i v,x=.ref p∧y=.int i∧SqT K H p xs∧atI xs i=some v∧Q v H
def De:R2:=fun x y H Q=>∃z i c,x=.str z∧y=.int i∧z.length≤sizeLine∧atI z.cps.toList i=some c∧Q (.str ⟨#[c]⟩) H
theorem zF:IxR X (Df X.K):=by
 intro value slice pins s σ H x y v u Q I rx ry h hs
 obtain⟨p,xs,i,z,rfl,rfl,hq,he,q⟩:=h
 cases rx
 obtain⟨t,rfl⟩:=ry
 obtain⟨its,r,pl,hz⟩:=I.list hq
 obtain⟨j,h1,h2,h3,h4,h5⟩:=pd he
 obtain⟨w,ew,rw'⟩:=r.get h2
 have hl:=r.length
 have hn:=oH
 have fin:EP X pins σ Q w s:=⟨z,H,I,rw',q⟩
 by_cases h0:0≤i
 ·have hj:i.toNat=j:=by
   rw[seqIndex_of h0 h5]at h1
   exact Option.some.inj h1
  exact item_listR pl.isList h0 (by omega) (by rw[hj];simpa using ew) fin hs
 ·have hj:(i+(its.toArray.size:Int)).toNat=j:=by
   rw[seqIndex_neg (by omega) h4]at h1
   rw[List.size_toArray,←hl]
   exact Option.some.inj h1
  exact subscriptTail_builtinR (x:=w) pl.isList.typeIs slot_list_getitem.lookup
   (wpAny_getItem_list_neg (Q:=fun r s'=>r=w∧EP X pins σ Q r s') pl.isList (by omega) (by rw[List.size_toArray]<;>omega) (by omega) (by rw[hj];simpa using ew) ⟨rfl,fin⟩) hs
theorem FG:IxR X (Dd X.K):=by
 intro value slice pins s σ H x y v u Q I rx ry h hs
 obtain⟨p,xs,i,z,rfl,rfl,hq,he,q⟩:=h
 cases rx
 obtain⟨t,rfl⟩:=ry
 obtain⟨its,r,pl,hz⟩:=I.tuple hq
 obtain⟨j,h1,h2,h3,h4,h5⟩:=pd he
 obtain⟨w,ew,rw'⟩:=r.get h2
 have hl:=r.length
 have hn:=oH
 have fin:EP X pins σ Q w s:=⟨z,H,I,rw',q⟩
 exact subscriptTail_builtinR (x:=w) pl.typeIs slot_tuple_getitem.lookup
  (getItem_tuple (j:=j) (Q:=fun r s'=>r=w∧EP X pins σ Q r s') pl (by omega) (by omega) (by rw[List.size_toArray,←hl];exact h1) (by simpa using ew) ⟨rfl,fin⟩) hs
theorem Cg:IxR X De:=by
 intro value slice pins s σ H x y v u Q I rx ry h hs
 obtain⟨z,i,c,rfl,rfl,hz,he,q⟩:=h
 obtain⟨t,rfl⟩:=rx
 obtain⟨t',rfl⟩:=ry
 obtain⟨j,h1,h2,h3,h4,h5⟩:=pd he
 have hl:z.cps.toList.length=z.length:=by simp[Str.length]
 rw[hl]at h1 h4 h5
 have hn:=oH
 exact tail_any (typeIs_str s z t) slot_str_getitem.lookup (getItem_str (c:=c) (by
  have e1:decide (i < -(2 ^ 63:Int))=false:=decide_eq_false (by omega)
  have e2:decide (i≥2 ^ 63)=false:=decide_eq_false (by omega)
  rw[e1,e2,Bool.or_false]) (by rw[h1];simpa using h2) ⟨.str ⟨#[c]⟩,H,I.tok _,⟨_,rfl⟩,q⟩) hs
def rIx(K:PySem.W.Frag):R2:=fun x y H Q=>Df K x y H Q∨Dd K x y H Q∨De x y H Q
theorem Ci:IxR X (rIx X.K):=zF.or (FG.or Cg)
theorem nN(lo hi:Option Int)(n:Nat):(sliceBounds lo hi none n).1=((HT.sIx n 0 lo:Nat):Int)∧(sliceBounds lo hi none n).2.1=((HT.sIx n n hi:Nat):Int)∧(sliceBounds lo hi none n).2.2=1:=by
 refine⟨?_,?_,rfl⟩
 ·cases lo with
  |none=>simp[sliceBounds,HT.sIx]
  |some i=>
   simp only[sliceBounds,HT.sIx,Option.getD_none,show(1:Int)>0 by decide,if_true]
   by_cases h:i<0
   ·simp only[h,if_true]<;>omega
   ·simp only[h,if_false]<;>omega
 ·cases hi with
  |none=>simp[sliceBounds,HT.sIx]
  |some i=>
   simp only[sliceBounds,HT.sIx,Option.getD_none,show(1:Int)>0 by decide,if_true]
   by_cases h:i<0
   ·simp only[h,if_true]<;>omega
   ·simp only[h,if_false]<;>omega
theorem mE(its:List Value)(lo hi:Option Int):slicePick its.toArray lo hi none=((its.drop (HT.sIx its.length 0 lo)).take (HT.sIx its.length its.length hi-HT.sIx its.length 0 lo)).toArray:=by
 obtain⟨h1,h2,h3⟩:=nN lo hi its.toArray.size
 unfold slicePick
 rw[h1,h2,h3]
 simp only[sliceRange_one,pick_run,List.size_toArray]<;>rfl
def Fd(K:PySem.W.Frag):V→Option Int→Option Int→Hp→VK→Prop:=fun x lo hi H Q=>∃a xs,x=.ref a∧SqL K H a xs∧∀p,H p=none→Q (.ref p) (upd H p (.lst (qx xs lo hi)))
theorem Ej:SlR X (Fd X.K):=by
 intro pins s σ H x v vl vu lo hi sl Q I rx hs pl pu h
 obtain⟨a,xs,rfl,hx,q⟩:=h
 cases rx
 obtain⟨its,r,ht,hz⟩:=I.list hx
 have hlen:=r.length
 refine⟨"list",_,slot_list_getitem.lookup,ht.isList.typeIs,?_⟩
 refine wpAny_getItem_list_slice ht.isList hs pl pu .none (by simp) ?_ (by rw[List.size_toArray]<;>omega)
 rw[mE,←hlen]
 refine⟨.ref s.heap.objs.size,_,I.laid (t':=s.toks) (o:=.lst (qx xs lo hi)) (fun b ob q=>Heap.get?_push_of_some _ q) (Nat.le_refl _) ?_,rfl,q _ (I.hok.fresh (Nat.le_refl _))⟩
 exact⟨Nat.le_trans (ko xs lo hi) hz,_,0,(r.drop (HT.sIx xs.length 0 lo)).take (HT.sIx xs.length xs.length hi-HT.sIx xs.length 0 lo),Heap.get?_push_size _ rfl⟩
theorem d9:gv X (.builtin "len") (fun xs H Q=>∃p ys,xs=[.ref p]∧(SqL X.K H p ys∨SqT X.K H p ys)∧Q (.int ys.length) H):=by
 intro pins s σ H xs us Q I r h
 obtain⟨p,ys,rfl,hq,q⟩:=h
 obtain⟨u,rfl,rx⟩:=vals1 r
 cases rx
 have hn:=oH
 rcases hq with hq|hq
 ·obtain⟨its,r',pl,hz⟩:=I.list hq
  have hlen:=r'.length
  exact Calls.call_len_list pl.isList (by simp only[List.size_toArray]<;>omega) ⟨.int ys.length,H,I.tok _,⟨s.toks+1,by rw[List.size_toArray,hlen]⟩,q⟩
 ·obtain⟨its,r',pl,hz⟩:=I.tuple hq
  have hlen:=r'.length
  exact len_tuple pl (by simp only[List.size_toArray]<;>omega) ⟨.int ys.length,H,I.tok _,⟨s.toks+1,by rw[List.size_toArray,hlen]⟩,q⟩
theorem jH:gv X (.type "list") (fun xs H Q=>∃p ys,xs=[.ref p]∧(SqL X.K H p ys∨SqT X.K H p ys)∧∀l,H l=none→Q (.ref l) (upd H l (.lst ys))):=by
 intro pins s σ H xs us Q I r h
 obtain⟨p,ys,rfl,hq,q⟩:=h
 obtain⟨u,rfl,rx⟩:=vals1 r
 cases rx
 have fin:∀(its:List Value),Vals ys its→ys.length≤sizeLine→∀(h':Heap)(c':Nat),(∀b o',s.heap.get? b=some o'→h'.get? b=some o') →
   h'.get? s.heap.objs.size=some { cls:=.type "list",dict:=none,data:=.seq its.toArray c',slots:=#[] }→EP X pins σ Q (.ref s.heap.objs.size) { s with heap:=h' }:=fun its r' hz h' c' kp e=>
  ⟨.ref s.heap.objs.size,_,I.laid (t':=s.toks) kp (Nat.le_refl _) (show dy X.prog X.w _ h' _ (.lst ys) from⟨hz,its,c',r',e⟩),rfl,q _ (I.hok.fresh (Nat.le_refl _))⟩
 rcases hq with hq|hq
 ·obtain⟨its,r',pl,hz⟩:=I.list hq
  have hlen:=r'.length
  obtain⟨o,ho,hc,n,hd⟩:=pl.isList
  exact call_list_seq p (.inl rfl) ho hc hd (fun h' c' kp e=>fin its r' hz h' c' kp e) (by simp only[List.size_toArray]<;>omega)
 ·obtain⟨its,r',pl,hz⟩:=I.tuple hq
  have hlen:=r'.length
  obtain⟨o,ho,hc,n,hd⟩:=pl
  exact call_list_seq p (.inr rfl) ho hc hd (fun h' c' kp e=>fin its r' hz h' c' kp e) (by simp only[List.size_toArray]<;>omega)
def tyV(K:PySem.W.Frag)(T:String)(x:V)(H:Hp):Prop:=match x with
 |.str _=>T = "str"
 |.int _=>T = "int"
 |.ref p=>(T = "list"∧∃xs,SqL K H p xs)∨(T = "tuple"∧∃o,K.lookup p=some o∧o.cls=.type "tuple"∧o.dict=none) ∨
   (T = "dict"∧((∃kvs,H p=some (.dK kvs))∨∃kvs,H p=some (.dT kvs)))∨(T = "set"∧∃S n,H p=some (.set S n))
 |_=>False
theorem vd{pins:List (Addr×Obj)}{σ:St}{H:Hp}{s:Shared}{T:String}{x:V}{v:Value}(I:Inv X pins σ H s)(r:RelV x v)(ty:tyV X.K T x H):
  s.TypeIs v T∧∀a,v=.ref a→∃ob,s.heap.get? a=some ob∧ob.dict=none:=by
 cases x with
 |str z=>
  obtain⟨t,rfl⟩:=r
  cases (show T = "str" from ty)
  exact⟨typeIs_str s z t,fun _ e=>nomatch e⟩
 |int i=>
  obtain⟨t,rfl⟩:=r
  cases (show T = "int" from ty)
  exact⟨typeIs_int s i t,fun _ e=>nomatch e⟩
 |ref p=>
  cases r
  rcases ty with ⟨rfl,xs,hq⟩|⟨rfl,o,hk,hc,hd⟩|⟨rfl,hk⟩|⟨rfl,S,n,hk⟩
  ·obtain⟨its,_,pl,_⟩:=I.list hq
   refine⟨pl.isList.typeIs,fun a e=>?_⟩
   cases e
   obtain⟨o,n,e,c,hd,_⟩:=pl
   exact⟨o,e,hd⟩
  ·refine⟨⟨o,I.kIn p o hk,hc⟩,fun a e=>?_⟩
   cases e
   exact⟨o,I.kIn _ o hk,hd⟩
  ·have z:∃o,s.heap.get? p=some o∧o.ExactDict:=by
    rcases hk with ⟨kvs,hk⟩|⟨kvs,hk⟩
    ·obtain⟨_,_,_,_,o,_,_,e,ex,_⟩:=I.hok p _ hk
     exact⟨o,e,ex⟩
    ·obtain⟨_,_,_,_,o,_,_,e,ex,_⟩:=I.hok p _ hk
     exact⟨o,e,ex⟩
   obtain⟨o,e,ex⟩:=z
   refine⟨⟨o,e,ex.1⟩,fun a e2=>?_⟩
   cases e2
   exact⟨o,e,ex.2.1⟩
  ·obtain⟨o,_,_,_,e,ex,_⟩:=I.hok p _ hk
   refine⟨⟨o,e,ex.1⟩,fun a e2=>?_⟩
   cases e2
   exact⟨o,e,ex.2.1⟩
 |_=>exact False.elim ty
def E9(K:PySem.W.Frag)(T:String)(r:V→List V→Hp→VK→Prop)(to:TE):TE:=fun σ H Q=>to σ H fun x H1=>tyV K T x H1∧r x [] H1 Q
def tBM(K:PySem.W.Frag)(T:String)(r:V→List V→Hp→VK→Prop)(to:TE)(t:TA):TE:=fun σ H Q=>to σ H fun x H1=>tyV K T x H1∧t σ H1 fun xs H2=>r x xs H2 Q
variable {o e:Expr}{es:List Expr}{to:TE}{t:TA}{name:Str}{apos cpos:Pos}{T id:String}{r:V→List V→Hp→VK→Prop}
theorem BE (pa:PlainAttrs T) (slot:Slot T name id) (hty:typeOf (.builtin id)=pure (.type "method_descriptor")) (hm:MtR X id r) (ho:PE X o to)
  (hbase:attributeBase o name X.env (eval o X.env)=eval o X.env:=by rfl) (hline:(apos.endLine==cpos.line)=true:=by rfl):PE X (.Call (.Attribute o name apos) [] [] cpos) (E9 X.K T r to):=by
 intro pins s σ H Q I h
 refine wpAny_Call_method0_late hbase hline (thn (ho pins s σ H _ I h) fun v s1 ⟨x,H1,I1,r1,ty,q1⟩=>?_)
 obtain⟨h1,h2⟩:=vd I1 r1 ty
 exact⟨T,id,pa,slot,hty,h1,h2,Calls.callWith_builtin rfl (PySem.evalArgs_none (hm pins s1 σ H1 x [] v [] Q I1 r1 .nil q1))⟩
theorem vZ (pa:PlainAttrs T) (slot:Slot T name id) (hty:typeOf (.builtin id)=pure (.type "method_descriptor")) (hm:MtR X id r) (ho:PE X o to) (ha:PA X (e::es) t)
  (hbase:attributeBase o name X.env (eval o X.env)=eval o X.env:=by rfl)
  (hfew:((backTo cpos (starEach (e::es) X.env)).all (fun x=>!x.1)&&(backToKw cpos (keywordEach [] X.env)).all (fun x=>x.1.isSome)
   && decide ((e::es).length+([]:List Keyword).length+(if ([]:List Keyword).isEmpty then 0 else 1)<30))=true:=by rfl)
  (hline:(apos.endLine==cpos.line)=true:=by rfl) (hs:starEach (e::es) X.env=(false,eval e X.env)::starEach es X.env:=by rfl) (hplain:(backTo cpos (starEach es X.env)).any (·.1)=false:=by rfl):
  PE X (.Call (.Attribute o name apos) (e::es) [] cpos) (tBM X.K T r to t):=by
 intro pins s σ H Q I h
 refine wpAny_Call_method_late hbase hfew hline rfl (thn (ho pins s σ H _ I h) fun v s1 ⟨x,H1,I1,r1,ty,q1⟩=>?_)
 obtain⟨h1,h2⟩:=vd I1 r1 ty
 refine⟨T,id,pa,slot,hty,h1,h2,?_⟩
 have hA:=ha cpos pins s1 σ H1 _ I1 q1
 rw[hs]at hA ⊢
 refine Calls.callWith_builtin (by show(false||(backTo cpos (starEach es X.env)).any (·.1))=false;rw[hplain]<;>rfl) (Calls.evalArgs_plain ?_)
 exact thn hA fun us s2 ⟨vs,H2,I2,r2,q2⟩=>hm pins s2 σ H2 x vs v us Q I2 r1 r2 q2
end
end L2
namespace L2
open PySem PySem.Spec PyProof.Rows
def MtM(X:Cx)(id:String)(r:V→List V→Hp→VK→Prop):Prop:=
 ∀(pins:List (Addr×Obj))(s:Shared)(σ:St)(H:Hp)(x:V)(xs:List V)(v:Value)(us:List Value)(Q:VK),Inv X pins σ H s→RelV x v→Vals xs us→r x xs H Q →
  wpAny (model X.prog X.w) X.A (call (.builtin id) (v::us)) (EP X pins σ Q) X.xe s
theorem Vals.one:∀{x:V}{us:List Value},Vals [x] us→∃u,us=[u]∧RelV x u
 |_,_,.cons r .nil=>⟨_,rfl,r⟩
theorem Vals.zero:∀{us:List Value},Vals [] us→us=[]
 |_,.nil=>rfl
theorem Vals.dropLast{xs:List V}{us:List Value}(h:Vals xs us):Vals xs.dropLast us.dropLast:=by
 induction h with
 |nil=>exact .nil
 |cons r t ih=>
  cases t with
  |nil=>exact .nil
  |cons q t'=>exact .cons r ih
theorem rQ{α:Type}(l:List α):l.eraseIdx (l.length-1)=l.dropLast:=by
 induction l with
 |nil=>rfl
 |cons a r ih=>
  cases r with
  |nil=>rfl
  |cons b r=>
   have e:(a::b::r).length-1=((b::r).length-1)+1:=by
    have h1:(a::b::r).length=r.length+2:=rfl
    have h2:(b::r).length=r.length+1:=rfl
    omega
   rw[e,List.eraseIdx_cons_succ,ih]
   all_goals rfl
section
variable {X:Cx}{pins:List (Addr×Obj)}{σ:St}{H:Hp}{s:Shared}{l b:Addr}{xs ys zs:List V}
theorem Inv.lset{its its':List Value}{n:Nat}{f:Array Value→Array Value}{t':Nat}(I:Inv X pins σ H s)(hH:H l=some (.lst xs))
  (e:s.heap.get? l=some { cls:=.type "list",data:=.seq its.toArray n }) (hf:f its.toArray=its'.toArray) (hv:Vals ys its') (hz:ys.length≤sizeLine):
  Inv X pins σ (upd H l (.lst ys)) { s with heap:=s.heap.update l (Obj.mapSeq f),toks:=t' }:=by
 have q:=PySem.IsL.update e f
 rw[hf]at q
 refine I.write (x:=l) (e:=l) (by rw[hH];exact trivial) (.inl rfl) (fun b' u hb hu=>(Heap.get?_update_other s.heap (Obj.mapSeq f) (Ne.symm hb)).trans hu) ⟨_,q⟩ ?_
 exact⟨hz,its',_,hv,q⟩
theorem Inv.lnew{its:List Value}{t':Nat}(I:Inv X pins σ H s)(hv:Vals ys its)(hz:ys.length≤sizeLine):
  Inv X pins σ (upd H s.heap.objs.size (.lst ys)) { s with heap:=s.heap.push { cls:=.type "list",data:=.seq its.toArray },toks:=t' }:=
 I.laid (fun _ _ q=>Heap.get?_push_of_some _ q) (Nat.le_refl _) ⟨hz,its,0,hv,Heap.get?_push_size _ rfl⟩
theorem Inv.fresh(I:Inv X pins σ H s):H s.heap.objs.size=none:=I.hok.fresh (Nat.le_refl _)
theorem Inv.lstM (I:Inv X pins σ H s) (hH:H l=some (.lst xs)):xs.length≤sizeLine∧∃(its:List Value) (n:Nat),Vals xs its∧xs.length=its.length∧s.heap.get? l=some { cls:=.type "list",data:=.seq its.toArray n }:=by
 obtain⟨z,its,n,r,e⟩:=I.hok l _ hH
 exact⟨z,its,n,r,r.length,e⟩
end
section
variable {X:Cx}
def yE:V→List V→Hp→VK→Prop:=fun x vs H Q=>∃l xs y,x=.ref l∧vs=[y]∧H l=some (.lst xs)∧xs.length<sizeLine∧Q .non (upd H l (.lst (xs++[y])))
theorem j3:MtM X "list.append" yE:=by
 intro pins s σ H x vs v us Q I rx rv h
 obtain⟨l,xs,y,rfl,rfl,hH,hz,q⟩:=h
 cases rx
 obtain⟨u,rfl,ru⟩:=rv.one
 obtain⟨z,its,n,r,hl,e⟩:=I.lstM hH
 refine call_meets F.slot_list_append ⟨_,e,rfl⟩ F.entry_list_append (F.args_list_append_2 _ _) (PySem.list_append l its.toArray n u (by rw[List.size_toArray];omega)) ⟨e,?_⟩
 refine⟨.non,_,I.lset (its':=its++[u]) hH e (by simp) (r.append (.cons ru .nil)) ?_,rfl,q⟩
 rw[List.length_append,List.length_singleton]
 omega
def Fe:V→List V→Hp→VK→Prop:=fun x vs H Q=>∃l xs y,x=.ref l∧vs=[]∧H l=some (.lst xs)∧xs[xs.length-1]? = some y∧Q y (upd H l (.lst xs.dropLast))
theorem BR:MtM X "list.pop" Fe:=by
 intro pins s σ H x vs v us Q I rx rv h
 obtain⟨l,xs,y,rfl,rfl,hH,hy,q⟩:=h
 cases rx
 have hus:=rv.zero
 subst hus
 obtain⟨z,its,n,r,hl,e⟩:=I.lstM hH
 obtain⟨u,hu,ru⟩:=r.get hy
 have hy':its.toArray[its.toArray.size-1]? = some u:=by
  show its.toArray[its.length-1]? = some u
  rw[←Array.getElem?_toList,←hl]
  exact hu
 refine call_meets F.slot_list_pop ⟨_,e,rfl⟩ F.entry_list_pop (F.args_list_pop_1 _) (MeetsSeq.list_pop_last l its.toArray n u hy' (by rw[List.size_toArray];omega)) ⟨e,?_⟩
 refine⟨y,_,I.lset (its':=its.dropLast) hH e ?_ r.dropLast ?_,ru,q⟩
 ·show its.toArray.eraseIdxIfInBounds (its.toArray.size-1)=its.dropLast.toArray
  rw[List.size_toArray,List.eraseIdxIfInBounds_toArray,rQ]
 ·rw[List.length_dropLast]
  omega
def Ff:R2:=fun x y H Q=>∃l b xs zs,x=.ref l∧y=.ref b∧H l=some (.lst xs)∧H b=some (.lst zs)∧xs.length+zs.length≤sizeLine∧∀p,H p=none→Q (.ref p) (upd H p (.lst (xs++zs)))
theorem BO:OpR X (binaryOp .Add) Ff:=by
 intro pins s σ H x y v u Q I rx ry h
 obtain⟨l,b,xs,zs,rfl,rfl,hH,hB,hz,q⟩:=h
 cases rx
 cases ry
 obtain⟨z,its,n,r,hl,e⟩:=I.lstM hH
 obtain⟨z2,its2,n2,r2,hl2,e2⟩:=I.lstM hB
 refine PySem.P.add_list e e2 ?_ (by rw[List.size_toArray,List.size_toArray];omega)
 have ea:its.toArray++its2.toArray=(its++its2).toArray:=by simp
 rw[ea]
 exact⟨.ref _,_,I.lnew (t':=s.toks) (r.append r2) (by rw[List.length_append];omega),rfl,q _ I.fresh⟩
end
section
variable {prog:Program}{w:World}{A:Around}{E:Value→Shared→Prop}{s:Shared}
end
section
variable {X:Cx}
end
end L2
namespace L2
open PySem PySem.Spec PyProof.Rows
section
variable {κ:Type}[DecidableEq κ]
theorem Ag.isSome_eq{o:Option V}{u:Option Value}(r:Ag o u):o.isSome=u.isSome:=by
 cases o with
 |none=>cases u with
  |none=>rfl
  |some _=>exact(show False from r).elim
 |some _=>cases u with
  |none=>exact(show False from r).elim
  |some _=>rfl
end
section
variable {P:Program}{w:World}{H:Hp}{h:Heap}{a:Addr}
end
section
variable {X:Cx}{pins:List (Addr×Obj)}{σ:St}{H:Hp}{s:Shared}{a:Addr}{y v:V}{u r:Value}{o:Option V}{A:Around}{E:Value→Shared→Prop}
theorem Inv.big(I:Inv X pins σ H s):sysModules<s.heap.objs.size:=by
 have h:mainGlobals<s.heap.objs.size:=(I.mod.glob.keeps I.bk).lt
 exact Nat.lt_trans (by decide) h
end
section
variable {X:Cx}{pins:List (Addr×Obj)}{σ:St}{H:Hp}{s:Shared}{a:Addr}{kvs:List (Key×V)}{k:Key}{u:Value}{A:Around}{E:Value→Shared→Prop}
end
section
variable {X:Cx}{o i e value:Expr}{pos pos' tpos:Pos}{td ty tv:TE}
end
section
variable {X:Cx}{pos:Pos}
end
structure M1 (X:Cx) (o:Expr) (m:Str) (apos:Pos) (e:Expr) (cpos:Pos):Prop where
 base:attributeBase o m X.env (eval o X.env)=eval o X.env
 few:((backTo cpos (starEach [e] X.env)).all (fun x=>!x.1)&&(backToKw cpos (keywordEach [] X.env)).all (fun x=>x.1.isSome)
  && decide (([e]:List Expr).length+([]:List Keyword).length+(if ([]:List Keyword).isEmpty then 0 else 1)<30))=true
 line:(apos.endLine==cpos.line)=true
 trees:backTo cpos (starEach [e] X.env)=[(false,eval e X.env)]
structure M2 (X:Cx) (o:Expr) (m:Str) (apos:Pos) (e f:Expr) (cpos:Pos):Prop where
 base:attributeBase o m X.env (eval o X.env)=eval o X.env
 few:((backTo cpos (starEach [e,f] X.env)).all (fun x=>!x.1)&&(backToKw cpos (keywordEach [] X.env)).all (fun x=>x.1.isSome)
  && decide (([e,f]:List Expr).length+([]:List Keyword).length+(if ([]:List Keyword).isEmpty then 0 else 1)<30))=true
 line:(apos.endLine==cpos.line)=true
 trees:backTo cpos (starEach [e,f] X.env)=[(false,eval e X.env),(false,eval f X.env)]
section
variable {X:Cx}{pins:List (Addr×Obj)}{σ:St}{H:Hp}{s:Shared}{a:Addr}{y d:V}{u r:Value}{o:Option V}{A:Around}{E:Value→Shared→Prop}
end
section
variable {X:Cx}{o e f:Expr}{apos cpos:Pos}{td ty tx:TE}
end
section
variable {X:Cx}{pins:List (Addr×Obj)}{σ:St}{H:Hp}{s:Shared}{a:Addr}{kvs:List (Key×V)}{A:Around}{E:Value→Shared→Prop}
end
section
variable {X:Cx}{pins:List (Addr×Obj)}{σ:St}{H:Hp}{s:Shared}{a:Addr}{y:V}{u:Value}{A:Around}{E:Value→Shared→Prop}
end
end L2
namespace Att
open PySem PySem.W PySem.Calls PyProof.Rows
theorem ku{P:Params}{h:Heap}:∀(ns:List Int)(vs:List Value),WellAll P h vs (ns.map WData.int)→IntsAre vs ns:=by
 intro ns
 induction ns with
 |nil=>
  intro vs w
  rw[List.map_nil]at w
  cases w
  exact .nil
 |cons n ns ih=>
  intro vs w
  rw[List.map_cons]at w
  cases w with
  |cons a b=>
   cases a
   exact .cons _ _ (ih _ b)
theorem tW{l:OpenLaw}{n:Nat}(hn:l.most=some n){P:Params}{h:Heap}{args:List WData}{vals:List Value}
  (hpre:l.row.toRowW.claim.pre args=true) (hwl:WellAll P h vals args):
  ∃a vs ns,vals=[Value.ref a]∧args=[WData.list (ns.map WData.int)]∧h.get? a=some { cls:=.type "list",data:=.seq vs.toArray }∧IntsAre vs ns∧ns.length≤n:=by
 have hsh:WShape.hasAll [] args [.list .int]=true:=(pre_splitW hpre).1
 have hc:l.pre.holds [] { args:=args }=true:=(pre_splitW hpre).2
 obtain⟨d,r,rfl,h1,h2⟩:=hasAllW_cons hsh
 obtain rfl:=hasAllW_nil h2
 obtain⟨xs,rfl,h3⟩:=hasW_list h1
 obtain⟨ns,rfl⟩:=items_int h3
 have hlen:ns.length≤n:=by
  unfold OpenLaw.pre at hc
  have h4:(WTm.not (.lt (.lit (.int (n:Int))) (.len (.arg 0)))).holds [] { args:=[.list (ns.map .int)] }=true:=by
   have h4:=(holds_andW hc).1
   rw[hn]at h4
   exact h4
  have h5:=condW_of h4 (w_not (w_lt w_lit (w_len_list (w_arg rfl))))
  rw[List.length_map]at h5
  refine Nat.le_of_not_lt fun q=>?_
  have q':(n:Int)<((ns.length:Nat):Int):=by omega
  first
   | (rw [decide_eq_true q'] at h5; exact absurd h5 (by decide))
   | (simp at h5; omega)
 cases hwl with
 |cons w1 w2=>
  cases w2
  cases w1 with
  |list ho hall=>exact⟨_,_,ns,rfl,rfl,ho,ku ns _ hall,hlen⟩
theorem ue(l:OpenLaw)(args:List WData):l.row.toRowW.claim.post args (.bool true) args=true:=
 postW_of (r:=l.row.toRowW) (X:=(true==true))
  (show WShape.has [] (.bool true) .bool=true by first|rfl|decide|simp[WShape.has,WShape.arms,WShape.armsAll])
  (show(WTm.eq .res (.lit (.bool true))).value [] { args:=args,res:=some (.bool true),after:=args }=some (.bool (true==true)) from w_eq_bool (w_res rfl) w_lit) rfl
theorem attach_call{l:OpenLaw}{n:Nat}{q:Program}{loose:List Str}{XP:(Str→Option Value)→Heap→Prop}{YP:World→Heap→Prop}{d:DefRec}
  (hn:l.most=some n) (hdf:d.params.defaults=[])
  (call:∀(w:World)(s₀ s₁:Shared)(mg mb:Str→Option Value)(fa:Addr)(o:Obj)(pm cd doc:Value)(a:Addr)(vs:List Value)(ns:List Int),
   Ground q loose [] XP w s₀ mg mb s₁.heap→YP w s₁.heap →
   s₁.heap.get? fa=some o→o.data=.func (docDef d.name d.params d.body d.scope pm cd doc)→s₁.heap.CodeRec cd d.name→mg d.name=some (.ref fa) →
   s₁.heap.get? a=some { cls:=.type "list",data:=.seq vs.toArray }→IntsAre vs ns→ns.length≤n→s₁.gens = #[] →
   codeAny (model l.prog w) callerA (.call (.ref fa) ⟨[.ref a],[]⟩) (fun r s'=>r=.ok (.ret (.bool true))∧OldK s₁.heap s'.heap∧s'.os=s₁.os∧AllBare s'.gens) s₁):
  WalkO q loose XP YP l.row.toRowW d [] (fun f vs=>PySem.call f vs):=by
 intro w s₀ s₁ mg mb G Y fa o pm cd doc dV kV ho hd hcd hD hmg hg args vals as hpre hlay hrd hwl hlo
 obtain rfl:dV=.none:=Dflts.none hD hdf
 obtain rfl:kV=.none:=Dflts.noKw hD
 obtain⟨a,vs,ns,rfl,rfl,hobj,hints,hlen⟩:=tW hn hpre hwl
 refine enter_call (codeAny_mono (call w s₀ s₁ mg mb fa o pm cd doc a vs ns G Y ho (fd_plain hd) hcd hmg hobj hints hlen hg) fun r s' hq=>?_)
 obtain⟨rfl,h2,h3,h4⟩:=hq
 exact⟨.inl ⟨.bool true,.bool true,[],rfl,fun _=>rfl,.bool true,ue l _,fun _=>⟨List.Pairwise.nil,fun _ hm=>(nomatch hm)⟩⟩,h2,h3,h4⟩
section
variable {prog:Program}{w:World}{A:Around}{E:Value→Shared→Prop}{s:Shared}{K:Frag}
theorem DX{R:Result→Shared→Prop}{C fI:Addr}{rest:List Value}{kw:List (Str×Value)}
  (X:K.In s.heap) (hm:makesIn K C=true) (hi:findIn K (.ref C) "__init__" = some (some (.ref fI))) (hf:isFn K (.ref fI)=true)
  (h:codeAny (model prog w) (A.under (.builtin "type.__call__" ⟨.ref C::rest,kw⟩)) (.call (.ref fI) ⟨.ref (s.heap.objs.size+1)::rest,kw⟩) (InitBack (s.heap.objs.size+1) R)
   { s with heap:=(s.heap.push emptyDict).push (instObj C s.heap.objs.size) }):codeAny (model prog w) A (.call (.ref C) ⟨rest,kw⟩) R s:=by
 obtain⟨hh,g,d,t,os⟩:=s
 exact make_core (makes_of X hm) (looks_findIn X hi) (fun self=>bind_fn X self (beq_iff_eq.mp hf)) (.inl rfl) h
theorem CT{x C:Addr}{ox:Obj}{es:List DictEntry}{n:Nat}{name:Str}{expr:Bool}{v:Value}{Q:Value→Shared→Prop}
  (X:K.In s.heap) (I:PySem.W.InstAt s.heap x ox C (some (dictOf es n))) (hg:plainGet K C name=true) (hh:hasDictIn K C=true) (ha:findIn K (.ref C) name=some none)
  (hl:getL name es=some (some v)) (hv:handedIn v=true) (h:Q v { s with toks:=s.toks+1 }):wpAny (model prog w) A (getAttr (.ref x) name expr) Q E s:=
 get_value X I (plainGet_of hg).1 (findObj_own hh ha rfl hl) hv h
end
end Att
namespace L2
open PySem PySem.Spec PyProof.Rows
theorem mV:∀{vs:List Value}{ns:List Int},IntsAre vs ns→Vals (ns.map V.int) vs
 |_,_,.nil=>.nil
 |_,_,.cons n t h=>.cons ⟨t,rfl⟩ (mV h)
def CP(H:Hp):Prop:=∀b,H b=none∨∃o xs,H b=some (.frz o (.lst xs))
theorem wJ{P:Program}{w:World}{K:PySem.W.Frag}{mg mb:Str→Option Value}{CX:CXT}{k:Nat}{fa a:Addr}{fd:FuncData}{x:Str}{sp:Sp}{s₁:Shared}{vs:List Value}{ns:List Int}
  (KX:K.In s₁.heap) (hns:s₁.heap.Ns mainGlobals mg) (hb:s₁.heap.Ns builtinsNs mb) (hbb:∀x:Str,x≠"__name__"→mb x=bootBuiltins x) (hlim:s₁.heap.NoLimit) (hg:s₁.gens = #[])
  (ha:s₁.heap.get? a=some { cls:=.type "list",data:=.seq vs.toArray }) (hi:IntsAre vs ns) (hl:ns.length≤sizeLine) (hr:Room k callerA)
  (F:∀base:Heap,K.In base→base.Ns mainGlobals mg→FnOk P w K mg base CX k fa fd [x] sp) (hbind:∀(s:Shared)(u:Value),BindsTo s fd ⟨[u],[]⟩ [(x,u)])
  (hsp:∀H:Hp,CP H→SqL K H a (ns.map V.int)→sp [.ref a] H (fun v _=>v=.bl true) fun _ _ _=>False)
  (hCX:∀H e s',CX [] H s₁ (fun _ _ _=>False) e s'→False):
  codeAny (model P w) callerA (.call (.ref fa) ⟨[.ref a],[]⟩) (fun r s'=>r=.ok (.ret (.bool true))∧OldK s₁.heap s'.heap∧s'.os=s₁.os∧AllBare s'.gens) s₁:=by
 have rv:=mV hi
 have lenV:=hi.length
 have core:∀H:Hp,CP H→SqL K H a (ns.map V.int)→HOk P w H s₁.heap→(∀b,H b≠none→b=a)→(H a≠none→K.lookup a=none) →
   codeAny (model P w) callerA (.call (.ref fa) ⟨[.ref a],[]⟩) (fun r s'=>r=.ok (.ret (.bool true))∧OldK s₁.heap s'.heap∧s'.os=s₁.os∧AllBare s'.gens) s₁:=by
  intro H hO hS hok hA hK
  have base_of:∀{b:Addr}{o:Obj},s₁.heap.get? b=some o→H b=none→(oP s₁.heap H).get? b=some o:=fun e n=>xg e n
  have noA:∀{b:Addr}{o:Obj}{es:Array DictEntry}{ep:Nat},s₁.heap.get? b=some o→o.data=.dict es ep→H b=none:=fun {b o es ep} e d=>by
   cases q:H b with
   |none=>rfl
   |some u=>
    have e':b=a:=hA b (by rw[q];simp)
    subst e'
    rw[ha]at e;cases e
    have d':Data.seq vs.toArray _=Data.dict es ep:=d
    cases d'
  have nsK:∀{b:Addr}{m:Str→Option Value},s₁.heap.Ns b m→(oP s₁.heap H).Ns b m:=fun {b m} ⟨o,es,ep,e,d,r⟩=>⟨o,es,ep,base_of e (noA e d),d,r⟩
  have hKb:K.In (oP s₁.heap H):=fun b o e=>base_of (KX b o e) (by
   cases q:H b with
   |none=>rfl
   |some u=>
    have e':b=a:=hA b (by rw[q];simp)
    subst e'
    rw[hK (by rw[q];simp)]at e;cases e)
  have hM:Mod K mg (oP s₁.heap H):=⟨hKb,nsK hns,⟨mb,nsK hb,hbb⟩,let⟨mc,h1,h2⟩:=hlim;⟨mc,nsK h1,h2⟩⟩
  have e0:Env0 P w K mg (oP s₁.heap H) callerA [] s₁ H:=⟨rfl,hM,fun b o e=>zj e,Nat.le_of_eq (uI _ _),trivial,fun b hb=>absurd (show b∈([]:List Addr) from hb) (by simp),hok,.of_eq hg⟩
  refine codeAny_mono ((F _ hKb (nsK hns)).run callerA [] s₁ H ⟨[.ref a],[]⟩ [.ref a] [.ref a] _ _ hr e0 (hbind s₁ (.ref a)) (.cons rfl .nil) (hsp H hO hS)) fun r s' h=>?_
  cases r with
  |error e=>exact(hCX H e s' h).elim
  |ok fl=>
   cases fl with
   |next=>exact False.elim h
   |brk=>exact False.elim h
   |cont=>exact False.elim h
   |ret u=>
    obtain⟨v,H',os,bare,un,hok',r',q⟩:=h
    have q':v=.bl true:=q
    subst q'
    obtain rfl:u=Value.bool true:=r'
    refine⟨rfl,OldK.of_keep fun b o e=>?_,os,bare⟩
    cases q:H b with
    |none=>exact un.keep b o e q (by intro z;exact absurd (show b∈([]:List Addr) from z) (by simp)) (by simp)
    |some u=>
     rcases hO b with z|⟨ob,xs,z⟩
     ·rw[q]at z;cases z
     ·have z2:=un.frzs b ob _ z
      obtain⟨e1,_⟩:=hok b _ z
      obtain⟨e2,_⟩:=hok' b _ z2
      rw[e]at e1;cases e1
      exact e2
 cases hk:K.lookup a with
 |some o=>
  have e:=KX a o hk
  rw[ha]at e
  cases e
  refine core (fun _=>none) (fun _=>.inl rfl) (.inr ⟨_,vs.toArray,_,hk,rfl,rfl,rfl,by rw[List.size_toArray,lenV];exact hl,by simpa using rv⟩) (fun b u z=>by have z':(none:Option HO)=some u:=z;cases z') (fun b z=>absurd rfl z) fun z=>absurd rfl z
 |none=>
  refine core (fun b=>if b=a then some (.frz { cls:=.type "list",data:=.seq vs.toArray } (.lst (ns.map V.int))) else none) (fun b=>?_) (.inl (.inr ⟨{ cls:=.type "list",data:=.seq vs.toArray },if_pos rfl⟩)) (fun b u z=>?_) (fun b z=>?_) fun _=>hk
  ·by_cases hb:b=a
   ·exact .inr ⟨_,_,if_pos hb⟩
   ·exact .inl (if_neg hb)
  ·by_cases hb:b=a
   ·have z':=(if_pos hb).symm.trans z
    cases z'
    subst hb
    exact⟨ha,by rw[List.length_map];exact hl,vs,_,rv,ha⟩
   ·have z':=(if_neg hb).symm.trans z
    cases z'
  ·by_cases hb:b=a
   ·exact hb
   ·exact absurd (if_neg hb) z
end L2
namespace L2
open PySem PySem.Spec PyProof.Rows
theorem yk{l:PySem.W.OpenLaw}{n k:Nat}{q:Program}{loose:List Str}{XP:(Str→Option Value)→Heap→Prop}{YP:World→Heap→Prop}{d:DefRec}{K:Params→PySem.W.Frag}{CX:World→CXT}{sp:World→Sp}{x:Str}
  (hn:l.most=some n) (hn2:n≤sizeLine) (hdf:d.params.defaults=[]) (hr:Room k callerA)
  (hY:∀(w:World)(h:Heap),YP w h→(K w.params).In h)
  (F:∀(w:World)(mg:Str→Option Value)(fa:Addr)(h:Heap),(K w.params).In h→h.Ns mainGlobals mg→mg d.name=some (.ref fa) →
   ∃fd:FuncData,(∀(s:Shared)(u:Value),BindsTo s fd ⟨[u],[]⟩ [(x,u)]) ∧
    ∀base:Heap,(K w.params).In base→base.Ns mainGlobals mg→FnOk l.prog w (K w.params) mg base (CX w) k fa fd [x] (sp w))
  (hsp:∀(w:World)(H:Hp)(a:Addr)(ns:List Int),ns.length≤n→CP H→SqL (K w.params) H a (ns.map V.int)→sp w [.ref a] H (fun v _=>v=.bl true) fun _ _ _=>False)
  (hCX:∀(w:World)(H:Hp)(s:Shared)(e:Value)(s':Shared),CX w [] H s (fun _ _ _=>False) e s'→False):
  PySem.W.WalkO q loose XP YP l.row.toRowW d [] (fun f vs=>PySem.call f vs):=by
 refine Att.attach_call hn hdf fun w s₀ s₁ mg mb fa o pm cd doc a vs ns G Y ho hd hcd hmg hobj hints hlen hg=>?_
 have KX:=hY w _ Y
 obtain⟨fd,hb,hF⟩:=F w mg fa _ KX G.T.g hmg
 exact wJ KX G.T.g G.T.b G.T.builtins G.T.nolimit hg hobj hints (Nat.le_trans hlen hn2) hr hF hb (fun H hO hS=>hsp w H a ns hlen hO hS) fun H e s'=>hCX w H s₁ e s'
end L2
namespace L2
open PySem PySem.Spec PyProof.Rows
def fu(s:Stmt):Arguments:=match s with
 |.FunctionDef _ a _ _ _ _ _ _ _ _=>a
 |_=>{ posonlyargs:=[],args:=[],vararg:=none,kwonlyargs:=[],kw_defaults:=[],kwarg:=none,defaults:=[] }
def cK(s:Stmt):List Stmt:=match s with
 |.FunctionDef _ _ b _ _ _ _ _ _ _=>b
 |_=>[]
def ak(s:Stmt):Scope:=match s with
 |.FunctionDef _ _ _ _ _ _ sc _ _ _=>sc
 |_=>{ kind:=.function,names:=[],isGenerator:=false,isCoroutine:=false }
structure Fun (K:PySem.W.Frag) (x qual:Str) (st:Stmt) (f:Addr) (fd:FuncData):Prop where
 ex:∃(oc:Value)(od:Option Addr)(kV doc pm:Value)(an:Option Addr)(cdv ct:Value)(osl:Array (Option Value)),
  fd=PySem.W.fnOf x qual (fu st) (cK st) (ak st) .none kV doc pm an cdv ct∧K.lookup f=some ⟨oc,od,.func fd,osl⟩∧PySem.W.codeIn K cdv qual=true
 kp:PySem.W.keepIn K (.ref f)=true
section
variable {P:Program}{w:World}{K:PySem.W.Frag}{mg:Str→Option Value}{base:Heap}
theorem Fun.binds{x qual:Str}{st:Stmt}{f:Addr}{fd:FuncData}{ps:List Str}(F:Fun K x qual st f fd)
  (h:∀(kV doc pm:Value)(an:Option Addr)(cdv ct:Value)(us:List Value),us.length=ps.length→bindArgs (PySem.W.fnOf x qual (fu st) (cK st) (ak st) .none kV doc pm an cdv ct) ⟨us,[]⟩=pure (ps.zip us)):Binds K fd ps []:=by
 obtain⟨oc,od,kV,doc,pm,an,cdv,ct,osl,rfl,lk,hcd⟩:=F.ex
 exact .all (h kV doc pm an cdv ct)
theorem Cr{x qual:Str}{st:Stmt}{f:Addr}{oc:Value}{od an:Option Addr}{osl:Array (Option Value)}{kV doc pm cdv ct:Value}(l:K.lookup f=some ⟨oc,od,.func (PySem.W.fnOf x qual (fu st) (cK st) (ak st) .none kV doc pm an cdv ct),osl⟩)
  (c:PySem.W.codeIn K cdv qual=true) (k:PySem.W.keepIn K (.ref f)=true):Fun K x qual st f (PySem.W.fnOf x qual (fu st) (cK st) (ak st) .none kV doc pm an cdv ct):=⟨⟨oc,od,kV,doc,pm,an,cdv,ct,osl,rfl,l,c⟩,k⟩
end
section
variable {X:Cx}
end
def bc(H H':Hp):Prop:=∀b o,H b=some o→H' b=some o
theorem bc.refl(H:Hp):bc H H:=fun _ _ h=>h
theorem bc.trans{H H1 H2:Hp}(a:bc H H1)(b:bc H1 H2):bc H H2:=fun c o h=>b c o (a c o h)
theorem bc.free{H H':Hp}(e:bc H H'){l:Addr}(h:H' l=Option.none):H l=Option.none:=by
 cases q:H l with
 |none=>rfl
 |some o=>
  rw[e l o q]at h
  cases h
theorem bc.seq{K:PySem.W.Frag}{H H':Hp}{a:Addr}{xs:List V}(e:bc H H')(h:SqL K H a xs):SqL K H' a xs:=by
 rcases h with (h|⟨o,h⟩)|h
 ·exact .inl (.inl (e _ _ h))
 ·exact .inl (.inr ⟨o,e _ _ h⟩)
 ·exact .inr h
end L2
namespace L2
open PySem PySem.Spec PyProof.Rows
section
variable {X:Cx}
end
section
variable {κ:Type}[DecidableEq κ]
end
end L2
namespace G
open PySem PySem.Spec PyProof.Rows L2
inductive PV where
 |non|bl (b:Bool)|int (i:Int)|str (x:Str)|tup (xs:List PV)|lst (xs:List PV)|dic|scr (ns:List Int)|exc (c:Str)|ob (c:Str) (ns:List Str) (ps:List PV)
instance:Inhabited PV:=⟨.non⟩
inductive Res (α:Type) where
 |ok (a:α)|err (c:Str)|stuck
def Res.bind{α β:Type}(r:Res α)(f:α→Res β):Res β:=match r with
 |.ok a=>f a
 |.err c=>.err c
 |.stuck=>.stuck
theorem Res.bind_ok{α β:Type}(a:α)(f:α→Res β):(Res.ok a).bind f=f a:=rfl
theorem Res.bind_err{α β:Type}(c:Str)(f:α→Res β):(Res.err c:Res α).bind f=.err c:=rfl
theorem Res.bind_stuck{α β:Type}(f:α→Res β):(Res.stuck:Res α).bind f=.stuck:=rfl
def FN(a:Addr)(C:Addr):Heap→Prop:=fun h=>∃o vs,h.get? a=some o∧o.cls=.ref C∧o.data=.fields vs
def dQ(K:PySem.W.Frag)(c:Str)(C:Addr):Prop:=PySem.W.nsIn K mainGlobals c=some (some (.ref C))
mutual
inductive Rep (K:PySem.W.Frag) (H:Hp):V→PV→Prop where
 |non:Rep K H .non .non
 |bl (b:Bool):Rep K H (.bl b) (.bl b)
 |int (i:Int):Rep K H (.int i) (.int i)
 |str (x:Str):Rep K H (.str x) (.str x)
 |tup {a:Addr} {xs:List V} {ps:List PV}:SqT K H a xs→Reps K H xs ps→Rep K H (.ref a) (.tup ps)
 |lst {a:Addr} {xs:List V} {ps:List PV}:H a=some (.lst xs)→Reps K H xs ps→Rep K H (.ref a) (.lst ps)
 |scr {a:Addr} {ns:List Int}:SqL K H a (ns.map V.int)→Rep K H (.ref a) (.scr ns)
 |dic {a:Addr} {kvs:List (Key×V)}:H a=some (.dK kvs)→Rep K H (.ref a) .dic
 |exc {a C:Addr} {c:Str}:H a=some (.ext (FN a C))→dQ K c C→Rep K H (.ref a) (.exc c)
 |ob {a C dx:Addr} {c:Str} {fs:List (Str×V)} {ns:List Str} {vs:List V} {ps:List PV}:H a=some (.ins C dx fs)→dQ K c C→fs=ns.zip vs→ns.length=vs.length→Reps K H vs ps→Rep K H (.ref a) (.ob c ns ps)
inductive Reps (K:PySem.W.Frag) (H:Hp):List V→List PV→Prop where
 |nil:Reps K H [] []
 |cons {v:V} {p:PV} {vs:List V} {ps:List PV}:Rep K H v p→Reps K H vs ps→Reps K H (v::vs) (p::ps)
end
section
variable {K:PySem.W.Frag}{H H':Hp}
theorem bL{a:Addr}{xs:List V}(e:bc H H')(h:SqT K H a xs):SqT K H' a xs:=by
 rcases h with (h|⟨o,h⟩)|h
 ·exact .inl (.inl (e _ _ h))
 ·exact .inl (.inr ⟨o,e _ _ h⟩)
 ·exact .inr h
mutual
theorem Rep.mono(e:bc H H'):∀{v:V}{p:PV},Rep K H v p→Rep K H' v p
 |_,_,.non=>.non
 |_,_,.bl b=>.bl b
 |_,_,.int i=>.int i
 |_,_,.str x=>.str x
 |_,_,.tup h r=>.tup (bL e h) (Reps.mono e r)
 |_,_,.lst h r=>.lst (e _ _ h) (Reps.mono e r)
 |_,_,.scr h=>.scr (e.seq h)
 |_,_,.dic h=>.dic (e _ _ h)
 |_,_,.exc h c=>.exc (e _ _ h) c
 |_,_,.ob h c z l r=>.ob (e _ _ h) c z l (Reps.mono e r)
theorem Reps.mono(e:bc H H'):∀{vs:List V}{ps:List PV},Reps K H vs ps→Reps K H' vs ps
 |_,_,.nil=>.nil
 |_,_,.cons r t=>.cons (Rep.mono e r) (Reps.mono e t)
end
theorem Reps.length:∀{vs:List V}{ps:List PV},Reps K H vs ps→vs.length=ps.length
 |_,_,.nil=>rfl
 |_,_,.cons _ t=>by rw[List.length_cons,List.length_cons,Reps.length t]
theorem Reps.get:∀{vs:List V}{ps:List PV}{i:Nat}{p:PV},Reps K H vs ps→ps[i]? = some p→∃v,vs[i]? = some v∧Rep K H v p
 |_,_,_,_,.nil,e=>by simp at e
 |_,_,0,_,.cons r _,e=>by simp at e;subst e;exact⟨_,rfl,r⟩
 |_,_,i+1,p,.cons _ t,e=>by
  obtain⟨v,h1,h2⟩:=Reps.get (i:=i) (p:=p) t (by simpa using e)
  exact⟨v,by simpa using h1,h2⟩
theorem Reps.append:∀{vs ws:List V}{ps qs:List PV},Reps K H vs ps→Reps K H ws qs→Reps K H (vs++ws) (ps++qs)
 |_,_,_,_,.nil,s=>s
 |_,_,_,_,.cons r t,s=>.cons r (Reps.append t s)
theorem Reps.take:∀{vs:List V}{ps:List PV}(n:Nat),Reps K H vs ps→Reps K H (vs.take n) (ps.take n)
 |_,_,0,_=>.nil
 |_,_,_+1,.nil=>.nil
 |_,_,n+1,.cons r t=>.cons r (Reps.take n t)
theorem Reps.drop:∀{vs:List V}{ps:List PV}(n:Nat),Reps K H vs ps→Reps K H (vs.drop n) (ps.drop n)
 |_,_,0,r=>r
 |_,_,_+1,.nil=>.nil
 |_,_,n+1,.cons _ t=>Reps.drop n t
theorem Reps.reverse:∀{vs:List V}{ps:List PV},Reps K H vs ps→Reps K H vs.reverse ps.reverse
 |_,_,.nil=>.nil
 |_,_,.cons r t=>by
  rw[List.reverse_cons,List.reverse_cons]
  exact Reps.append (Reps.reverse t) (.cons r .nil)
theorem Reps.ints:∀(ns:List Int),Reps K H (ns.map V.int) (ns.map PV.int)
 |[]=>.nil
 |n::r=>.cons (.int n) (Reps.ints r)
theorem Rep.int_inv{v:V}{i:Int}(r:Rep K H v (.int i)):v=.int i:=by cases r;rfl
theorem Rep.bl_inv{v:V}{b:Bool}(r:Rep K H v (.bl b)):v=.bl b:=by cases r;rfl
theorem Rep.non_inv{v:V}(r:Rep K H v .non):v=.non:=by cases r;rfl
theorem Rep.tup_inv{v:V}{ps:List PV}(r:Rep K H v (.tup ps)):∃a xs,v=.ref a∧SqT K H a xs∧Reps K H xs ps:=by
 cases r with
 |tup h t=>exact⟨_,_,rfl,h,t⟩
theorem Rep.scr_inv{v:V}{ns:List Int}(r:Rep K H v (.scr ns)):∃a,v=.ref a∧SqL K H a (ns.map V.int):=by
 cases r with
 |scr h=>exact⟨_,rfl,h⟩
theorem Rep.lst_inv{v:V}{ps:List PV}(r:Rep K H v (.lst ps)):∃a xs,v=.ref a∧H a=some (.lst xs)∧Reps K H xs ps:=by
 cases r with
 |lst h t=>exact⟨_,_,rfl,h,t⟩
theorem Reps.nil_inv{vs:List V}(r:Reps K H vs []):vs=[]:=by cases r;rfl
theorem Reps.cons_inv{vs:List V}{p:PV}{ps:List PV}(r:Reps K H vs (p::ps)):∃v ws,vs=v::ws∧Rep K H v p∧Reps K H ws ps:=by
 cases r with
 |cons a b=>exact⟨_,_,rfl,a,b⟩
end
structure Grow (Hs H Hs' H':Hp):Prop where
 s:bc Hs Hs'
 i:bc Hs' H'
 h:bc H H'
 o:∀x,H x≠none→Hs x=none→Hs' x=none
theorem Grow.refl{Hs H:Hp}(i:bc Hs H):Grow Hs H Hs H:=⟨bc.refl _,i,bc.refl _,fun _ _ h=>h⟩
theorem Grow.trans{Hs H Hs1 H1 Hs2 H2:Hp}(a:Grow Hs H Hs1 H1)(b:Grow Hs1 H1 Hs2 H2):Grow Hs H Hs2 H2:=
 ⟨a.s.trans b.s,b.i,a.h.trans b.h,fun x h n=>b.o x (by
  cases e:H x with
  |none=>exact absurd e h
  |some o=>rw[a.h x o e];exact fun z=>nomatch z) (a.o x h n)⟩
theorem bM{H:Hp}{p:Addr}{o:HO}(h:H p=none):bc H (upd H p o):=fun b u q=>by rw[aR (bD q h)];exact q
theorem t5{Hs H:Hp}{p:Addr}{o:HO}(i:bc Hs H):bc (upd Hs p o) (upd H p o):=fun b u q=>by
 by_cases e:b=p
 ·subst e;rw[aC]at q ⊢;exact q
 ·rw[aR e]at q ⊢;exact i b u q
theorem Grow.new{Hs H:Hp}{p:Addr}{o:HO}(i:bc Hs H)(h:H p=none):Grow Hs H (upd Hs p o) (upd H p o):=
 ⟨bM (i.free h),t5 i,bM h,fun x hx hn=>by rw[aR (fun e=>hx (by rw[e];exact h))];exact hn⟩
theorem Grow.newOwn{Hs H:Hp}{p:Addr}{o:HO}(i:bc Hs H)(h:H p=none):Grow Hs H Hs (upd H p o):=
 ⟨bc.refl _,i.trans (bM h),bM h,fun _ _ hn=>hn⟩
def Ret(K:PySem.W.Frag)(Hs H:Hp)(r:Res PV)(EO:Str→Prop)(Q:VK):Prop:=match r with
 |.ok p=>∀v Hs' H',Grow Hs H Hs' H'→Rep K Hs' v p→Q v H'
 |.err c=>EO c
 |.stuck=>False
theorem Ret.grow{K:PySem.W.Frag}{Hs H Hs1 H1:Hp}{r:Res PV}{EO:Str→Prop}{Q:VK}(h:Ret K Hs H r EO Q)(g:Grow Hs H Hs1 H1):Ret K Hs1 H1 r EO Q:=by
 cases r with
 |ok p=>exact fun v Hs' H' g' r=>h v Hs' H' (g.trans g') r
 |err c=>exact h
 |stuck=>exact h
theorem Ret.bind{K:PySem.W.Frag}{Hs H:Hp}{r:Res PV}{f:PV→Res PV}{EO:Str→Prop}{Q:VK}(h:Ret K Hs H (r.bind f) EO Q):
  Ret K Hs H r EO fun v H1=>∃Hs1 p,Grow Hs H Hs1 H1∧Rep K Hs1 v p∧Ret K Hs1 H1 (f p) EO Q:=by
 cases r with
 |ok p=>exact fun v Hs' H' g r=>⟨Hs',p,g,r,Ret.grow (r:=f p) h g⟩
 |err c=>exact h
 |stuck=>exact h
theorem Ret.mono{K:PySem.W.Frag}{Hs H:Hp}{r:Res PV}{EO:Str→Prop}{Q Q':VK}(h:Ret K Hs H r EO Q)(m:∀v H',Q v H'→Q' v H'):Ret K Hs H r EO Q':=by
 cases r with
 |ok p=>exact fun v Hs' H' g r=>m _ _ (h v Hs' H' g r)
 |err c=>exact h
 |stuck=>exact h
def ph(K:PySem.W.Frag)(Hs H:Hp)(r:Res (List PV))(EO:Str→Prop)(Q:List V→Hp→Prop):Prop:=match r with
 |.ok ps=>∀vs Hs' H',Grow Hs H Hs' H'→Reps K Hs' vs ps→Q vs H'
 |.err c=>EO c
 |.stuck=>False
def pj(Hs H:Hp)(r:Res Bool)(EO:Str→Prop)(Q:Bool→Hp→Prop):Prop:=match r with
 |.ok b=>∀Hs' H',Grow Hs H Hs' H'→Q b H'
 |.err c=>EO c
 |.stuck=>False
theorem pj.grow{Hs H Hs1 H1:Hp}{r:Res Bool}{EO:Str→Prop}{Q:Bool→Hp→Prop}(h:pj Hs H r EO Q)(g:Grow Hs H Hs1 H1):pj Hs1 H1 r EO Q:=by
 cases r with
 |ok p=>exact fun Hs' H' g'=>h Hs' H' (g.trans g')
 |err c=>exact h
 |stuck=>exact h
theorem pj.bind{Hs H:Hp}{r:Res Bool}{f:Bool→Res Bool}{EO:Str→Prop}{Q:Bool→Hp→Prop}(h:pj Hs H (r.bind f) EO Q):
  pj Hs H r EO fun b H1=>∃Hs1,Grow Hs H Hs1 H1∧pj Hs1 H1 (f b) EO Q:=by
 cases r with
 |ok p=>exact fun Hs' H' g=>⟨Hs',g,pj.grow (r:=f p) h g⟩
 |err c=>exact h
 |stuck=>exact h
inductive SV where
 |sh (p:PV)|own (xs:List PV)
abbrev PSt:=List (Option SV)
inductive Fl where
 |next (σ:PSt)|brk (σ:PSt)|cont (σ:PSt)|ret (p:PV)
abbrev DE:=PSt→Res PV
abbrev DA:=PSt→Res (List PV)
abbrev DT:=PSt→Res Bool
abbrev DS:=PSt→Res Fl
def ye(K:PySem.W.Frag)(H0 Hs H:Hp)(v:V):SV→Prop
 |.sh p=>Rep K Hs v p
 |.own xs=>∃a vs,v=.ref a∧H a=some (.lst vs)∧Hs a=none∧H0 a=none∧Reps K Hs vs xs
structure SR (K:PySem.W.Frag) (H0 Hs0 Hs H:Hp) (σ:PSt) (τ:L2.St):Prop where
 g:Grow Hs0 H0 Hs H
 slot:∀(i:Nat)(sv:SV),σ[i]? = some (some sv)→∃v,τ[i]? = some (some v)∧ye K H0 Hs H v sv
 inj:∀(i j:Nat)(xs ys:List PV)(a:Addr),i≠j→σ[i]? = some (some (.own xs))→σ[j]? = some (some (.own ys))→τ[i]? = some (some (.ref a))→τ[j]?≠some (some (.ref a))
 len:σ.length=τ.length
theorem ye.grow{K:PySem.W.Frag}{H0 Hs H Hs' H':Hp}{v:V}{sv:SV}(h:ye K H0 Hs H v sv)(g:Grow Hs H Hs' H'):ye K H0 Hs' H' v sv:=by
 cases sv with
 |sh p=>exact Rep.mono g.s h
 |own xs=>
  obtain⟨a,vs,e,h1,h2,h3,h4⟩:=h
  exact⟨a,vs,e,g.h _ _ h1,g.o a (by rw[h1];exact fun z=>nomatch z) h2,h3,h4.mono g.s⟩
theorem SR.grow{K:PySem.W.Frag}{H0 Hs0 Hs H Hs' H':Hp}{σ:PSt}{τ:L2.St}(h:SR K H0 Hs0 Hs H σ τ)(g:Grow Hs H Hs' H'):SR K H0 Hs0 Hs' H' σ τ:=
 ⟨h.g.trans g,fun i sv e=>let⟨v,e1,r⟩:=h.slot i sv e;⟨v,e1,r.grow g⟩,h.inj,h.len⟩
structure UnX (l:List Env) (H H1:Hp) (h B h':Heap):Prop where
 keep:∀b o,h.get? b=some o→H b=none→b∉frs l→B.get? b=some o
 slot:∀b o,h.get? b=some o→H b=none→b∈frs l→∃sl,h'.get? b=some { o with slots:=sl }
 free:∀b o,h.get? b=some o→H b=none→H1 b=none
 there:∀b o,h.get? b=some o→H b≠none→∃o',B.get? b=some o'
 tups:∀b xs,H b=some (.tup xs)→H1 b=some (.tup xs)
 frzs:∀b o u,H b=some (.frz o u)→H1 b=some (.frz o u)
 tbls:∀b ps,H b=some (.tbl ps)→∃more,H1 b=some (.tbl (ps++more))
def CXG(P:Program)(w:World):CXT:=fun l H s E e s'=>∃(ea C:Addr)(B:Heap)(a0:Value)(H1:Hp),e=.ref ea∧s'.os=s.os∧AllBare s'.gens∧Heap.FlyingW B l ea (.ref C) a0 s'.heap∧UnX l H H1 s.heap B s'.heap∧HOk P w H1 B∧E (.ref C) none H1
def Ei(X:Cx)(H0 Hs0:Hp)(c:Str)(e:Value)(s':Shared):Prop:=
 ∃(pins:List (Addr×Obj))(τ:L2.St)(H:Hp)(s:Shared),Inv X pins τ H s ∧
  ((∃(ea C:Addr)(vs:List Value)(h':Heap)(Hs:Hp),e=.ref ea∧dQ X.K c C∧Grow Hs0 H0 Hs H∧Heap.MadeExcOf s.heap h' ea (.ref C) vs∧s' = { s with heap:=h' }) ∨
   CXG X.prog X.w X.stack H s (fun cls _ H1=>∃(C:Addr)(Hs1:Hp),cls=.ref C∧dQ X.K c C∧Grow Hs0 H0 Hs1 H1) e s')
def bI(X:Cx)(H0 Hs0:Hp)(c:Str):Prop:=∀(e:Value)(s':Shared),Ei X H0 Hs0 c e s'→X.xe e s'
section
variable (X:Cx)(H0 Hs0:Hp)
def RE(d:DE):TE:=fun τ H Q=>∃Hs σ,SR X.K H0 Hs0 Hs H σ τ∧Ret X.K Hs H (d σ) (bI X H0 Hs0) Q
def RA(d:DA):TA:=fun τ H Q=>∃Hs σ,SR X.K H0 Hs0 Hs H σ τ∧ph X.K Hs H (d σ) (bI X H0 Hs0) Q
def RT(d:DT):TT:=fun τ H Q=>∃Hs σ,SR X.K H0 Hs0 Hs H σ τ∧pj Hs H (d σ) (bI X H0 Hs0) Q
def gy(D:Ends)(Hs H:Hp):Res Fl→Prop
 |.ok (.next σ')=>∀Hs' H' τ',bc Hs Hs'→SR X.K H0 Hs0 Hs' H' σ' τ'→D.nx τ' H'
 |.ok (.brk σ')=>∀Hs' H' τ',bc Hs Hs'→SR X.K H0 Hs0 Hs' H' σ' τ'→D.bk τ' H'
 |.ok (.cont σ')=>∀Hs' H' τ',bc Hs Hs'→SR X.K H0 Hs0 Hs' H' σ' τ'→D.ct τ' H'
 |.ok (.ret p)=>∀v Hs' H',Grow Hs0 H0 Hs' H'→Rep X.K Hs' v p→D.rt v H'
 |.err c=>bI X H0 Hs0 c
 |.stuck=>False
def RS(d:DS):TS:=fun D τ H=>∃Hs σ,SR X.K H0 Hs0 Hs H σ τ∧gy X H0 Hs0 D Hs H (d σ)
def QE(e:Expr)(d:DE):Prop:=PE X e (RE X H0 Hs0 d)
def QA(es:List Expr)(d:DA):Prop:=PA X es (RA X H0 Hs0 d)
def QT(e:Expr)(d:DT):Prop:=PT X e (RT X H0 Hs0 d)
def QW(e:Expr)(d:DT):Prop:=PW X e (RT X H0 Hs0 d)
def QS(s:Stmt)(d:DS):Prop:=PS X s (RS X H0 Hs0 d)
def QSs(s:List Stmt)(d:DS):Prop:=PSs X s (RS X H0 Hs0 d)
end
theorem PE.imp{X:Cx}{e:Expr}{t t':TE}(h:PE X e t)(m:∀τ H Q,t' τ H Q→t τ H Q):PE X e t':=fun pins s σ H Q I q=>h pins s σ H Q I (m _ _ _ q)
theorem PA.imp{X:Cx}{e:List Expr}{t t':TA}(h:PA X e t)(m:∀τ H Q,t' τ H Q→t τ H Q):PA X e t':=fun pos pins s σ H Q I q=>h pos pins s σ H Q I (m _ _ _ q)
theorem PT.imp{X:Cx}{e:Expr}{t t':TT}(h:PT X e t)(m:∀τ H Q,t' τ H Q→t τ H Q):PT X e t':=fun pins s σ H Q I q=>h pins s σ H Q I (m _ _ _ q)
theorem PW.imp{X:Cx}{e:Expr}{t t':TT}(h:PW X e t)(m:∀τ H Q,t' τ H Q→t τ H Q):PW X e t':=fun wh pins s σ H Q I q=>h wh pins s σ H Q I (m _ _ _ q)
theorem PS.imp{X:Cx}{e:Stmt}{t t':TS}(h:PS X e t)(m:∀D τ H,t' D τ H→t D τ H):PS X e t':=fun pins s σ H D I q=>h pins s σ H D I (m _ _ _ q)
theorem PSs.imp{X:Cx}{e:List Stmt}{t t':TS}(h:PSs X e t)(m:∀D τ H,t' D τ H→t D τ H):PSs X e t':=fun pins s σ H D I q=>h pins s σ H D I (m _ _ _ q)
theorem QS.stuck{X:Cx}{H0 Hs0:Hp}{e:Stmt}:QS X H0 Hs0 e (fun _=>.stuck):=fun pins s σ H D I ⟨_,_,_,h⟩=>h.elim
def ae(i:Nat):DE:=fun σ=>match σ[i]? with
 |some (some (.sh p))=>.ok p
 |_=>.stuck
def eC(p:PV):DE:=fun _=>.ok p
section
variable {X:Cx}{H0 Hs0:Hp}
theorem vO {i:Nat} {x:Str} {pos:Pos} (hN:X.N[i]? = some x) (hv:Vis X.env.scope x) (hd:(x==("__debug__":Str))=false) (hcd:(x==("__classdict__":Str))=false):QE X H0 Hs0 (.Name x pos) (ae i):=by
 refine PE.imp (i7 hN hv hd hcd) fun τ H Q ⟨Hs,σ,S,h⟩=>?_
 unfold ae at h
 split at h
 ·rename_i p e
  obtain⟨v,e1,r⟩:=S.slot i _ e
  exact⟨v,e1,h v Hs H (.refl S.g.i) r⟩
 ·exact h.elim
theorem Dv{i j pos}:QE X H0 Hs0 (.Constant (.int i) j pos) (eC (.int i)):=PE.imp BD fun τ H Q ⟨Hs,σ,S,h⟩=>h _ Hs H (.refl S.g.i) (.int i)
theorem Fi{b j pos}:QE X H0 Hs0 (.Constant (.bool b) j pos) (eC (.bl b)):=PE.imp DH fun τ H Q ⟨Hs,σ,S,h⟩=>h _ Hs H (.refl S.g.i) (.bl b)
theorem Dn{j pos}:QE X H0 Hs0 (.Constant .none j pos) (eC .non):=PE.imp BC fun τ H Q ⟨Hs,σ,S,h⟩=>h _ Hs H (.refl S.g.i) .non
def OpP(X:Cx)(f:Value→Value→Sem Value)(g:PV→PV→Res PV):Prop:=
 ∀(EO:Str→Prop),OpR X f fun x y H Q=>∃Hs p q,bc Hs H∧Rep X.K Hs x p∧Rep X.K Hs y q∧Ret X.K Hs H (g p q) EO Q
def e2(g:PV→PV→Res PV)(a b:DE):DE:=fun σ=>(a σ).bind fun p=>(b σ).bind fun q=>g p q
variable {a b:Expr}{da db:DE}{pos:Pos}
theorem two{g:PV→PV→Res PV}{τ:L2.St}{H:Hp}{Q:VK}(h:RE X H0 Hs0 (e2 g da db) τ H Q):
  RE X H0 Hs0 da τ H fun x H1=>RE X H0 Hs0 db τ H1 fun y H2=>∃Hs p q,bc Hs H2∧Rep X.K Hs x p∧Rep X.K Hs y q∧Ret X.K Hs H2 (g p q) (bI X H0 Hs0) Q:=by
 obtain⟨Hs,σ,S,h⟩:=h
 refine⟨Hs,σ,S,Ret.mono (Ret.bind h) fun x H1 ⟨Hs1,p,g1,r1,h1⟩=>?_⟩
 exact⟨Hs1,σ,S.grow g1,Ret.mono (Ret.bind h1) fun y H2 ⟨Hs2,q,g2,r2,h2⟩=>⟨Hs2,p,q,g2.i,r1.mono g2.s,r2,h2⟩⟩
theorem Fh{op:Operator}{g:PV→PV→Res PV}(ho:OpP X (binaryOp op) g)(ha:QE X H0 Hs0 a da)(hb:QE X H0 Hs0 b db):QE X H0 Hs0 (.BinOp a op b pos) (e2 g da db):=
 PE.imp (DF (ho (bI X H0 Hs0)) ha hb) fun τ H Q h=>two h
theorem Dx{op:CmpOp}{g:PV→PV→Res PV}(ho:OpP X (compareOp op) g)(ha:QE X H0 Hs0 a da)(hb:QE X H0 Hs0 b db)(hm:behindInMarks op b=false):QE X H0 Hs0 (.Compare a [op] [b] pos) (e2 g da db):=
 PE.imp (yY (ho (bI X H0 Hs0)) ha hb hm) fun τ H Q h=>two h
end
end G
namespace G
open PySem PySem.Spec PyProof.Rows L2
open Builtin.Int (intBits)
instance (i j:Int):Decidable (IntMulOk i j):=by unfold IntMulOk;infer_instance
def aS:PV→PV→Res PV
 |.int i,.int j=>.ok (.int (i+j))
 |.lst xs,.lst ys=>if xs.length+ys.length≤10000000 then .ok (.lst (xs++ys)) else .stuck
 |_,_=>.stuck
def a7:PV→PV→Res PV
 |.int i,.int j=>.ok (.int (i-j))
 |_,_=>.stuck
def ay:PV→PV→Res PV
 |.int i,.int j=>if IntMulOk i j then .ok (.int (i*j)) else .stuck
 |_,_=>.stuck
def bC:PV→PV→Res PV
 |.int i,.int j=>if j≠0∧intBits j≤9000 then .ok (.int (i.fdiv j)) else .stuck
 |_,_=>.stuck
def bU:PV→PV→Res PV
 |.int i,.int j=>if j≠0 then .ok (.int (i.fmod j)) else .stuck
 |_,_=>.stuck
def uk:PV→PV→Res PV
 |.int i,.int j=>if 0≤j∧j≤1000000∧i.natAbs<2 ^ 64 then .ok (.int (i ^ j.toNat)) else .stuck
 |_,_=>.stuck
section
variable {X:Cx}
theorem bA{K:PySem.W.Frag}{Hs H:Hp}{i:Int}{EO:Str→Prop}{Q:VK}(h:Ret K Hs H (.ok (.int i)) EO Q)(s:bc Hs H):Q (.int i) H:=h _ Hs H (.refl s) (.int i)
theorem gJ{K:PySem.W.Frag}{Hs H:Hp}{i:Bool}{EO:Str→Prop}{Q:VK}(h:Ret K Hs H (.ok (.bl i)) EO Q)(s:bc Hs H):Q (.bl i) H:=h _ Hs H (.refl s) (.bl i)
theorem oG{j:Int}(h:intBits j≤9000):j.natAbs.log2<9000:=by
 unfold intBits at h
 split at h
 ·rename_i e
  have e':j=0:=by simpa using e
  subst e'
  decide +kernel
 ·omega
theorem ax:OpP X (binaryOp .Add) aS:=by
 intro EO pins s σ H x y v u Q I rx ry h
 obtain⟨Hs,p,q,i,rp,rq,h⟩:=h
 unfold aS at h
 split at h
 ·cases rp.int_inv;cases rq.int_inv
  exact BP pins s σ H _ _ v u Q I rx ry ⟨_,_,rfl,rfl,bA h i⟩
 ·split at h
  ·rename_i xs ys hl
   obtain⟨a,vs,rfl,ha,ra⟩:=rp.lst_inv
   obtain⟨b,ws,rfl,hb,rb⟩:=rq.lst_inv
   have l1:=ra.length;have l2:=rb.length
   exact BO pins s σ H _ _ v u Q I rx ry ⟨a,b,vs,ws,rfl,rfl,i _ _ ha,i _ _ hb,by rw[sizeLine_eq];omega,fun p hp=>h _ _ _ (.new i hp) (.lst aC (Reps.mono (bM (i.free hp)) (ra.append rb)))⟩
  ·exact h.elim
 ·exact h.elim
theorem au:OpP X (binaryOp .Sub) a7:=by
 intro EO pins s σ H x y v u Q I rx ry h
 obtain⟨Hs,p,q,i,rp,rq,h⟩:=h
 unfold a7 at h
 split at h
 ·cases rp.int_inv;cases rq.int_inv
  exact BL pins s σ H _ _ v u Q I rx ry ⟨_,_,rfl,rfl,bA h i⟩
 ·exact h.elim
theorem ag:OpP X (binaryOp .Mult) ay:=by
 intro EO pins s σ H x y v u Q I rx ry h
 obtain⟨Hs,p,q,i,rp,rq,h⟩:=h
 unfold ay at h
 split at h
 ·cases rp.int_inv;cases rq.int_inv
  split at h
  ·rename_i hm
   exact(opI (X:=X) (C:=fun i j=>IntMulOk i j) (g:=fun i j=>i*j) fun _ _ _ _ _ _ _ hc q=>mul_int q hc) pins s σ H _ _ v u Q I rx ry ⟨_,_,rfl,rfl,hm,bA h i⟩
  ·exact h.elim
 ·exact h.elim
theorem aP:OpP X (binaryOp .FloorDiv) bC:=by
 intro EO pins s σ H x y v u Q I rx ry h
 obtain⟨Hs,p,q,i,rp,rq,h⟩:=h
 unfold bC at h
 split at h
 ·cases rp.int_inv;cases rq.int_inv
  split at h
  ·rename_i hm
   exact(opI (X:=X) (C:=fun i j=>j≠0∧intBits j≤9000) (g:=fun i j=>i.fdiv j) fun _ _ _ _ _ _ _ hc q=>floordiv_int hc.1 q (.inl (PyProof.noPylong_of_log2 (oG hc.2)))) pins s σ H _ _ v u Q I rx ry ⟨_,_,rfl,rfl,hm,bA h i⟩
  ·exact h.elim
 ·exact h.elim
theorem aH:OpP X (binaryOp .Mod) bU:=by
 intro EO pins s σ H x y v u Q I rx ry h
 obtain⟨Hs,p,q,i,rp,rq,h⟩:=h
 unfold bU at h
 split at h
 ·cases rp.int_inv;cases rq.int_inv
  split at h
  ·rename_i hm
   exact zh pins s σ H _ _ v u Q I rx ry ⟨_,_,rfl,rfl,hm,bA h i⟩
  ·exact h.elim
 ·exact h.elim
theorem sD:OpP X (binaryOp .Pow) uk:=by
 intro EO pins s σ H x y v u Q I rx ry h
 obtain⟨Hs,p,q,i,rp,rq,h⟩:=h
 unfold uk at h
 split at h
 ·cases rp.int_inv;cases rq.int_inv
  split at h
  ·rename_i hm
   exact BN pins s σ H _ _ v u Q I rx ry ⟨_,_,rfl,rfl,hm,bA h i⟩
  ·exact h.elim
 ·exact h.elim
def jV:PV→Res PV
 |.int i=>.ok (.int (-i))
 |_=>.stuck
end
end G
namespace G
open PySem PySem.Spec PyProof.Rows L2
open PySem.SeqAt
mutual
def peq:PV→PV→Bool
 |.non,.non=>true
 |.bl a,.bl b=>a==b
 |.int a,.int b=>a==b
 |.bl a,.int b=>(if a then 1 else 0)==b
 |.int a,.bl b=>a==(if b then 1 else 0)
 |.str a,.str b=>a==b
 |.tup xs,.tup ys=>js xs ys
 |.lst xs,.lst ys=>js xs ys
 |_,_=>false
def js:List PV→List PV→Bool
 |[],[]=>true
 |x::xs,y::ys=>peq x y&&js xs ys
 |_,_=>false
end
def jB:Nat→PV→Bool
 |0,_=>false
 |n+1,.tup xs=>xs.all (jB n)
 |n+1,.lst xs=>xs.all (jB n)
 |_+1,.dic=>false
 |_+1,.exc _=>false
 |_+1,.ob _ _ _=>false
 |_+1,.scr _=>false
 |_+1,_=>true
theorem mj(n:Nat)(e:Nat→Bool):(List.range (n+1)).all e=(e 0&&(List.range n).all fun j=>e (j+1)):=by
 rw[List.range_succ_eq_map,List.all_cons,List.all_map];rfl
theorem fW:∀(ps qs:List PV),js ps qs=((List.range (min ps.length qs.length)).all (fun j=>peq (ps.getD j .non) (qs.getD j .non))&&(ps.length==qs.length))
 |[],[]=>by simp[js]
 |[],q::qs=>by simp[js]
 |p::ps,[]=>by simp[js]
 |p::ps,q::qs=>by
  have h:=fW ps qs
  show(peq p q&&js ps qs)=_
  rw[h,List.length_cons,List.length_cons,Nat.succ_min_succ,mj]
  simp[Bool.and_assoc]
theorem vV{ps qs:List PV}(h:ps.length≠qs.length):js ps qs=false:=by
 rw[fW]
 have:(ps.length==qs.length)=false:=by simpa using h
 rw[this,Bool.and_false]
section
variable {X:Cx}{pins:List (Addr×Obj)}{τ:L2.St}{H:Hp}{s:Shared}
theorem lst_is(I:Inv X pins τ H s){a:Addr}{xs:List V}(h:H a=some (.lst xs)):∃its:List Value,Vals xs its∧s.heap.IsList a its.toArray:=by
 obtain⟨z,its,n,r,_,e⟩:=I.lstM h
 exact⟨its,r,⟨_,e,rfl,n,rfl⟩⟩
theorem tup_is(I:Inv X pins τ H s){a:Addr}{xs:List V}(h:SqT X.K H a xs):∃its:List Value,Vals xs its∧s.heap.IsTuple a its.toArray:=by
 obtain⟨its,r,p,z⟩:=I.tuple h
 exact⟨its,r,p⟩
theorem ki(I:Inv X pins τ H s){a:Addr}{xs ys:List V}(h:H a=some (.lst xs))(h':SqT X.K H a ys):False:=by
 obtain⟨its,r,o,e,c,_⟩:=lst_is I h
 obtain⟨its',r',o',e',c',_⟩:=tup_is I h'
 rw[e]at e';cases e'
 rw[c]at c'
 injection c' with z
 exact absurd z (by decide)
theorem pR(I:Inv X pins τ H s):∀(n:Nat)(p q:PV)(x:V),jB n p=true→jB n q=true→Rep X.K H x p→Rep X.K H x q→peq p q=true:=by
 intro n
 induction n with
 |zero=>intro p q x h;cases h
 |succ n ih=>
  have lists:∀(xs:List V)(ps qs:List PV),ps.all (jB n)=true→qs.all (jB n)=true→Reps X.K H xs ps→Reps X.K H xs qs→js ps qs=true:=by
   intro xs
   induction xs with
   |nil=>intro ps qs _ _ r r';cases r;cases r';rfl
   |cons x xs ihx=>
    intro ps qs h h' r r'
    cases r with
    |cons r t=>
     cases r' with
     |cons r' t'=>
      rw[List.all_cons,Bool.and_eq_true]at h h'
      show(peq _ _&&js _ _)=true
      rw[ih _ _ _ h.1 h'.1 r r',ihx _ _ h.2 h'.2 t t'];rfl
  intro p q x h h' r r'
  cases r with
  |non=>cases r';rfl
  |bl b=>cases r';simp[peq]
  |int i=>cases r';simp[peq]
  |str y=>cases r';simp[peq]
  |tup e t=>
   cases r' with
   |tup e' t'=>
    have z:=I.tuple_inj e e'
    subst z
    exact lists _ _ _ h h' t t'
   |lst e' t'=>exact(ki I e' e).elim
   |scr _=>cases h'
   |dic _=>cases h'
   |exc _ _=>cases h'
   |ob _ _ _ _ _=>cases h'
  |lst e t=>
   cases r' with
   |lst e' t'=>
    rw[e]at e';cases e'
    exact lists _ _ _ h h' t t'
   |tup e' t'=>exact(ki I e e').elim
   |scr _=>cases h'
   |dic _=>cases h'
   |exc _ _=>cases h'
   |ob _ _ _ _ _=>cases h'
  |scr _=>cases h
  |dic _=>cases h
  |exc _ _=>cases h
  |ob _ _ _ _ _=>cases h
theorem sU{ps:List PV}{xs:List V}{its:List Value}(r:Reps X.K H xs ps)(rv:Vals xs its){j:Nat}(h:j<its.toArray.size):
  ∃v,RelV v its.toArray[j]∧Rep X.K H v (ps.getD j .non)∧ps.getD j .non∈ps:=by
 have l1:=r.length;have l2:=rv.length
 simp only[List.size_toArray]at h
 have hp:ps[j]? = some ps[j]:=List.getElem?_eq_getElem (by omega)
 obtain⟨v,hv,rp⟩:=r.get hp
 obtain⟨u,hu,ru⟩:=rv.get hv
 have e:its.toArray[j]=u:=by
  simp only[List.getElem_toArray]
  rw[List.getElem?_eq_getElem h]at hu
  exact Option.some.inj hu
 refine⟨v,by rw[e];exact ru,?_,?_⟩
 ·rw[List.getD_eq_getElem?_getD,hp];exact rp
 ·rw[List.getD_eq_getElem?_getD,hp];exact List.getElem_mem _
set_option maxHeartbeats 4000000 in
theorem deep(I:Inv X pins τ H s):∀(n:Nat),(∀(A:Around)(p q:PV)(x y:V)(v u:Value),A.units+n<cLine→jB n p=true→jB n q=true→Rep X.K H x p→Rep X.K H y q→RelV x v→RelV y u →
  RcAt A s v u (peq p q)∧RcNeAt A s v u (!peq p q)∧EqAt A s v u (peq p q)):=by
 intro n
 induction n with
 |zero=>intro A p q x y v u _ h;cases h
 |succ n ih=>
  have items:∀(A:Around){xs ys:List V}{ps qs:List PV}{its jts:List Value},A.units+(n+1)<cLine→ps.all (jB n)=true→qs.all (jB n)=true→Reps X.K H xs ps→Reps X.K H ys qs→Vals xs its→Vals ys jts →
    ∀j (h1:j<its.toArray.size) (h2:j<jts.toArray.size),EqAt A.in1 s its.toArray[j] jts.toArray[j] (peq (ps.getD j .non) (qs.getD j .non)):=by
   intro A xs ys ps qs its jts hu h h' r r' rv rv' j h1 h2
   obtain⟨v1,a1,b1,c1⟩:=sU r rv h1
   obtain⟨v2,a2,b2,c2⟩:=sU r' rv' h2
   exact(ih A.in1 _ _ v1 v2 _ _ (by show A.units+1+n<cLine;omega) (List.all_eq_true.mp h _ c1) (List.all_eq_true.mp h' _ c2) b1 b2 a1 a2).2.2
  intro A p q x y v u hu hp hq rp rq rx ry
  have hu':A.units<cLine:=by omega
  have sc:∀{b:Bool},RcAt A s v u b∧RcNeAt A s v u (!b)∧EqAt A s v u b→b=peq p q→RcAt A s v u (peq p q)∧RcNeAt A s v u (!peq p q)∧EqAt A s v u (peq p q):=fun h e=>e▸h
  cases rp with
  |dic _=>cases hp
  |exc _ _=>cases hp
  |ob _ _ _ _ _=>cases hp
  |scr _=>cases hp
  |non=>
   cases rx
   cases rq with
   |dic _=>cases hq
   |exc _ _=>cases hq
   |ob _ _ _ _ _=>cases hq
   |scr _=>cases hq
   |non=>cases ry;exact sc ⟨RcAt.none_none,RcNeAt.none_none,EqAt.same _⟩ rfl
   |bl b=>cases ry;exact sc ⟨RcAt.none_bool _,RcNeAt.none_bool _,EqAt.none_bool _⟩ rfl
   |int i=>obtain⟨t,rfl⟩:=ry;exact sc ⟨RcAt.none_int _ _,RcNeAt.none_int _ _,EqAt.none_int _ _⟩ rfl
   |str z=>obtain⟨t,rfl⟩:=ry;exact sc ⟨RcAt.none_str _ _,RcNeAt.none_str _ _,EqAt.none_str _ _⟩ rfl
   |tup e t=>cases ry;obtain⟨its,rv,hl⟩:=tup_is I e;exact sc ⟨RcAt.none_tuple hl hu',RcNeAt.none_tuple hl hu',EqAt.none_tuple hl hu'⟩ rfl
   |lst e t=>cases ry;obtain⟨its,rv,hl⟩:=lst_is I e;exact sc ⟨RcAt.none_list hl hu',RcNeAt.none_list hl hu',EqAt.none_list hl hu'⟩ rfl
  |bl a=>
   cases rx
   cases rq with
   |dic _=>cases hq
   |exc _ _=>cases hq
   |ob _ _ _ _ _=>cases hq
   |scr _=>cases hq
   |non=>cases ry;exact sc ⟨RcAt.bool_none _,RcNeAt.bool_none _,EqAt.bool_none _⟩ rfl
   |bl b=>cases ry;exact sc ⟨RcAt.bool_bool _ _,RcNeAt.bool_bool _ _,EqAt.bool_bool _ _⟩ (by simp[peq])
   |int i=>obtain⟨t,rfl⟩:=ry;exact sc ⟨RcAt.bool_int _ _ _,RcNeAt.bool_int _ _ _,EqAt.bool_int _ _ _⟩ (by simp[peq])
   |str z=>obtain⟨t,rfl⟩:=ry;exact sc ⟨RcAt.bool_str _ _ _,RcNeAt.bool_str _ _ _,EqAt.bool_str _ _ _⟩ rfl
   |tup e t=>cases ry;obtain⟨its,rv,hl⟩:=tup_is I e;exact sc ⟨RcAt.bool_tuple _ hl hu',RcNeAt.bool_tuple _ hl hu',EqAt.bool_tuple _ hl hu'⟩ rfl
   |lst e t=>cases ry;obtain⟨its,rv,hl⟩:=lst_is I e;exact sc ⟨RcAt.bool_list _ hl hu',RcNeAt.bool_list _ hl hu',EqAt.bool_list _ hl hu'⟩ rfl
  |int a=>
   obtain⟨tt,rfl⟩:=rx
   cases rq with
   |dic _=>cases hq
   |exc _ _=>cases hq
   |ob _ _ _ _ _=>cases hq
   |scr _=>cases hq
   |non=>cases ry;exact sc ⟨RcAt.int_none _ _,RcNeAt.int_none _ _,EqAt.int_none _ _⟩ rfl
   |bl b=>cases ry;exact sc ⟨RcAt.int_bool _ _ _,RcNeAt.int_bool _ _ _,EqAt.int_bool _ _ _⟩ (by simp[peq])
   |int i=>obtain⟨t,rfl⟩:=ry;exact sc ⟨RcAt.int_int _ _ _ _,RcNeAt.int_int _ _ _ _,EqAt.int_int _ _ _ _⟩ (by simp[peq])
   |str z=>obtain⟨t,rfl⟩:=ry;exact sc ⟨RcAt.int_str _ _ _ _,RcNeAt.int_str _ _ _ _,EqAt.int_str _ _ _ _⟩ rfl
   |tup e t=>cases ry;obtain⟨its,rv,hl⟩:=tup_is I e;exact sc ⟨RcAt.int_tuple _ _ hl hu',RcNeAt.int_tuple _ _ hl hu',EqAt.int_tuple _ _ hl hu'⟩ rfl
   |lst e t=>cases ry;obtain⟨its,rv,hl⟩:=lst_is I e;exact sc ⟨RcAt.int_list _ _ hl hu',RcNeAt.int_list _ _ hl hu',EqAt.int_list _ _ hl hu'⟩ rfl
  |str a=>
   obtain⟨tt,rfl⟩:=rx
   cases rq with
   |dic _=>cases hq
   |exc _ _=>cases hq
   |ob _ _ _ _ _=>cases hq
   |scr _=>cases hq
   |non=>cases ry;exact sc ⟨RcAt.str_none _ _,RcNeAt.str_none _ _,EqAt.str_none _ _⟩ rfl
   |bl b=>cases ry;exact sc ⟨RcAt.str_bool _ _ _,RcNeAt.str_bool _ _ _,EqAt.str_bool _ _ _⟩ rfl
   |int i=>obtain⟨t,rfl⟩:=ry;exact sc ⟨RcAt.str_int _ _ _ _,RcNeAt.str_int _ _ _ _,EqAt.str_int _ _ _ _⟩ rfl
   |str z=>obtain⟨t,rfl⟩:=ry;exact sc ⟨RcAt.str_str _ _ _ _,RcNeAt.str_str _ _ _ _,EqAt.str_str _ _ _ _⟩ (by simp[peq])
   |tup e t=>cases ry;obtain⟨its,rv,hl⟩:=tup_is I e;exact sc ⟨RcAt.str_tuple _ _ hl hu',RcNeAt.str_tuple _ _ hl hu',EqAt.str_tuple _ _ hl hu'⟩ rfl
   |lst e t=>cases ry;obtain⟨its,rv,hl⟩:=lst_is I e;exact sc ⟨RcAt.str_list _ _ hl hu',RcNeAt.str_list _ _ hl hu',EqAt.str_list _ _ hl hu'⟩ rfl
  | @tup a xs ps e t=>
   cases rx
   obtain⟨its,rv,hl⟩:=tup_is I e
   cases rq with
   |dic _=>cases hq
   |exc _ _=>cases hq
   |ob _ _ _ _ _=>cases hq
   |scr _=>cases hq
   |non=>cases ry;exact sc ⟨RcAt.tuple_none hl hu',RcNeAt.tuple_none hl hu',EqAt.tuple_none hl hu'⟩ rfl
   |bl b=>cases ry;exact sc ⟨RcAt.tuple_bool _ hl hu',RcNeAt.tuple_bool _ hl hu',EqAt.tuple_bool _ hl hu'⟩ rfl
   |int i=>obtain⟨t,rfl⟩:=ry;exact sc ⟨RcAt.tuple_int _ _ hl hu',RcNeAt.tuple_int _ _ hl hu',EqAt.tuple_int _ _ hl hu'⟩ rfl
   |str z=>obtain⟨t,rfl⟩:=ry;exact sc ⟨RcAt.tuple_str _ _ hl hu',RcNeAt.tuple_str _ _ hl hu',EqAt.tuple_str _ _ hl hu'⟩ rfl
   |lst e' t'=>cases ry;obtain⟨jts,rw',hl'⟩:=lst_is I e';exact sc ⟨RcAt.tuple_list hl hl' hu',RcNeAt.tuple_list hl hl' hu',EqAt.tuple_list hl hl' hu'⟩ rfl
   | @tup b ys qs e' t'=>
    cases ry
    obtain⟨jts,rw',hl'⟩:=tup_is I e'
    have it:=items A (by omega) hp hq t t' rv rw'
    have n1:its.toArray.size=ps.length:=by rw[List.size_toArray,←rv.length,t.length]
    have n2:jts.toArray.size=qs.length:=by rw[List.size_toArray,←rw'.length,t'.length]
    have h1:=RcAt.tuples hl hl' hu' it
    have h2:=RcNeAt.tuples hl hl' hu' it
    rw[n1,n2,←fW]at h1 h2
    refine⟨h1,h2,?_⟩
    by_cases hab:a=b
    ·subst hab
     have z:=pR I (n+1) _ _ _ hp hq (.tup e t) (.tup e' t')
     rw[z];exact EqAt.same _
    ·exact EqAt.of_refs hab h1
  | @lst a xs ps e t=>
   cases rx
   obtain⟨its,rv,hl⟩:=lst_is I e
   cases rq with
   |dic _=>cases hq
   |exc _ _=>cases hq
   |ob _ _ _ _ _=>cases hq
   |scr _=>cases hq
   |non=>cases ry;exact sc ⟨RcAt.list_none hl hu',RcNeAt.list_none hl hu',EqAt.list_none hl hu'⟩ rfl
   |bl b=>cases ry;exact sc ⟨RcAt.list_bool _ hl hu',RcNeAt.list_bool _ hl hu',EqAt.list_bool _ hl hu'⟩ rfl
   |int i=>obtain⟨t,rfl⟩:=ry;exact sc ⟨RcAt.list_int _ _ hl hu',RcNeAt.list_int _ _ hl hu',EqAt.list_int _ _ hl hu'⟩ rfl
   |str z=>obtain⟨t,rfl⟩:=ry;exact sc ⟨RcAt.list_str _ _ hl hu',RcNeAt.list_str _ _ hl hu',EqAt.list_str _ _ hl hu'⟩ rfl
   |tup e' t'=>cases ry;obtain⟨jts,rw',hl'⟩:=tup_is I e';exact sc ⟨RcAt.list_tuple hl hl' hu',RcNeAt.list_tuple hl hl' hu',EqAt.list_tuple hl hl' hu'⟩ rfl
   | @lst b ys qs e' t'=>
    cases ry
    obtain⟨jts,rw',hl'⟩:=lst_is I e'
    have it:=items A (by omega) hp hq t t' rv rw'
    have n1:its.toArray.size=ps.length:=by rw[List.size_toArray,←rv.length,t.length]
    have n2:jts.toArray.size=qs.length:=by rw[List.size_toArray,←rw'.length,t'.length]
    have h12:RcAt A s (.ref a) (.ref b) (js ps qs)∧RcNeAt A s (.ref a) (.ref b) (!js ps qs):=by
     by_cases hl2:ps.length=qs.length
     ·have h1:=RcAt.lists hl hl' (by rw[n1,n2,hl2]) hu' it
      have h2:=RcNeAt.lists hl hl' (by rw[n1,n2,hl2]) hu' it
      have ee:(List.range its.toArray.size).all (fun j=>peq (ps.getD j .non) (qs.getD j .non))=js ps qs:=by
       rw[fW,n1,←hl2,Nat.min_self];simp
      rw[ee]at h1 h2
      exact⟨h1,h2⟩
     ·rw[vV hl2]
      have hne:(its.toArray.size != jts.toArray.size)=true:=by rw[n1,n2];simpa using hl2
      exact⟨RcAt.lists_lengths hl hl' hne hu',RcNeAt.lists_lengths hl hl' hne hu'⟩
    refine⟨h12.1,h12.2,?_⟩
    by_cases hab:a=b
    ·subst hab
     have z:=pR I (n+1) _ _ _ hp hq (.lst e t) (.lst e' t')
     rw[z];exact EqAt.same _
    ·exact EqAt.of_refs hab h12.1
end
def pEq(p q:PV):Res PV:=if jB 20 p=true∧jB 20 q=true then .ok (.bl (peq p q)) else .stuck
def pNe(p q:PV):Res PV:=if jB 20 p=true∧jB 20 q=true then .ok (.bl (!peq p q)) else .stuck
section
variable {X:Cx}
theorem bK(hu:X.A.units+20<cLine):OpP X (compareOp .Eq) pEq:=by
 intro EO pins s σ H x y v u Q I rx ry h
 obtain⟨Hs,p,q,i,rp,rq,h⟩:=h
 unfold pEq at h
 split at h
 ·rename_i hc
  exact(deep I 20 X.A p q x y v u hu hc.1 hc.2 (rp.mono i) (rq.mono i) rx ry).1 _ _ _ _ ⟨.bl _,H,I,rfl,gJ h i⟩
 ·exact h.elim
theorem we(hu:X.A.units+20<cLine):OpP X (compareOp .NotEq) pNe:=by
 intro EO pins s σ H x y v u Q I rx ry h
 obtain⟨Hs,p,q,i,rp,rq,h⟩:=h
 unfold pNe at h
 split at h
 ·rename_i hc
  exact(deep I 20 X.A p q x y v u hu hc.1 hc.2 (rp.mono i) (rq.mono i) rx ry).2.1 _ _ _ _ ⟨.bl _,H,I,rfl,gJ h i⟩
 ·exact h.elim
end
end G
namespace G
open PySem PySem.Spec PyProof.Rows L2
def cy(f:Int→Int→Bool):PV→PV→Res PV
 |.int i,.int j=>.ok (.bl (f i j))
 |_,_=>.stuck
def nk:PV→Bool
 |.non=>true
 |_=>false
def oj:PV→PV→Res PV
 |p,.non=>.ok (.bl (!nk p))
 |_,_=>.stuck
def e1(g:PV→Res PV)(a:DE):DE:=fun σ=>(a σ).bind g
section
variable {X:Cx}{H0 Hs0:Hp}
theorem kD{op:CmpOp}{f:Int→Int→Bool}(h:OpR X (compareOp op) (rI0 fun i j=>.bl (f i j))):OpP X (compareOp op) (cy f):=by
 intro EO pins s σ H x y v u Q I rx ry hh
 obtain⟨Hs,p,q,i,rp,rq,hh⟩:=hh
 unfold cy at hh
 split at hh
 ·cases rp.int_inv;cases rq.int_inv
  exact h pins s σ H _ _ v u Q I rx ry ⟨_,_,rfl,rfl,gJ hh i⟩
 ·exact hh.elim
theorem fE:OpP X (compareOp .Lt) (cy fun i j=>decide (i<j)):=kD DN
theorem ou:OpP X (compareOp .LtE) (cy fun i j=>decide (i≤j)):=kD DP
theorem jZ:OpP X (compareOp .Gt) (cy fun i j=>decide (j<i)):=kD DQ
theorem BK:OpP X (compareOp .GtE) (cy fun i j=>decide (j≤i)):=kD DR
theorem yz{K:PySem.W.Frag}{H:Hp}{x:V}{p:PV}(r:Rep K H x p):decide (x=.non)=nk p:=by
 cases r<;>simp[nk]
theorem um:OpP X (compareOp .IsNot) oj:=by
 intro EO pins s σ H x y v u Q I rx ry hh
 obtain⟨Hs,p,q,i,rp,rq,hh⟩:=hh
 unfold oj at hh
 split at hh
 ·cases rq.non_inv
  refine zg pins s σ H _ _ v u Q I rx ry ⟨rfl,?_⟩
  rw[yz rp];exact gJ hh i
 ·exact hh.elim
variable {a b c:Expr}{da db dc:DE}{pos:Pos}
theorem one{g:PV→Res PV}{τ:L2.St}{H:Hp}{Q:VK}(h:RE X H0 Hs0 (e1 g da) τ H Q):
  RE X H0 Hs0 da τ H fun x H1=>∃Hs p,bc Hs H1∧Rep X.K Hs x p∧Ret X.K Hs H1 (g p) (bI X H0 Hs0) Q:=by
 obtain⟨Hs,σ,S,h⟩:=h
 exact⟨Hs,σ,S,Ret.mono (Ret.bind h) fun x H1 ⟨Hs1,p,g1,r1,h1⟩=>⟨Hs1,p,g1.i,r1,h1⟩⟩
theorem Dp(ha:QE X H0 Hs0 a da):QE X H0 Hs0 (.UnaryOp .USub a pos) (e1 jV da):=
 PE.imp (DC AH ha) fun τ H Q h=>by
  obtain⟨Hs,σ,S,h⟩:=one h
  refine⟨Hs,σ,S,Ret.mono h fun x H1 ⟨Hs1,p,i,r,h1⟩=>?_⟩
  unfold jV at h1
  split at h1
  ·cases r.int_inv;exact⟨_,rfl,bA h1 i⟩
  ·exact h1.elim
def asB:PV→Res Bool
 |.bl b=>.ok b
 |_=>.stuck
def tV(d:DE):DT:=fun σ=>(d σ).bind asB
def nM(a b:DT):DT:=fun σ=>(a σ).bind fun c=>if c=true then b σ else .ok false
def tOr(a b:DT):DT:=fun σ=>(a σ).bind fun c=>if c=true then .ok true else b σ
def eS(a:DT):DT:=fun σ=>(a σ).bind fun c=>.ok (!c)
theorem pE{τ:L2.St}{H:Hp}{Q:Bool→Hp→Prop}(h:RT X H0 Hs0 (tV da) τ H Q):RE X H0 Hs0 da τ H fun x H1=>∃k,x=.bl k∧Q k H1:=by
 obtain⟨Hs,σ,S,h⟩:=h
 refine⟨Hs,σ,S,?_⟩
 unfold tV at h
 generalize da σ=r at h ⊢
 cases r with
 |ok p=>
  cases p with
  |bl k=>exact fun v Hs' H' g r=>⟨k,r.bl_inv,h Hs' H' g⟩
  |_=>exact h.elim
 |err c=>exact h
 |stuck=>exact h
theorem A4(ha:QE X H0 Hs0 a da)(he:∀whole,isTrue a X.env whole=(do let v ←whole;standAt a.pos;holding [v] (truthy v))):QT X H0 Hs0 a (tV da):=
 PT.imp (Bp ha he) fun τ H Q h=>pE h
theorem A6{op:CmpOp}{g:PV→PV→Res PV}(ho:OpP X (compareOp op) g)(ha:QE X H0 Hs0 a da)(hb:QE X H0 Hs0 b db)(hm:behindInMarks op b=false):QT X H0 Hs0 (.Compare a [op] [b] pos) (tV (e2 g da db)):=
 PT.imp (yS (ho (bI X H0 Hs0)) ha hb hm) fun τ H Q h=>two (pE h)
theorem pj.mono{Hs H:Hp}{r:Res Bool}{EO:Str→Prop}{Q Q':Bool→Hp→Prop}(h:pj Hs H r EO Q)(m:∀v H',Q v H'→Q' v H'):pj Hs H r EO Q':=by
 cases r with
 |ok p=>exact fun Hs' H' g=>m _ _ (h Hs' H' g)
 |err c=>exact h
 |stuck=>exact h
variable {ta tb:DT}{rest:List Expr}
theorem xX{τ:L2.St}{H:Hp}{Q:Bool→Hp→Prop}(h:RT X H0 Hs0 (nM ta tb) τ H Q):RT X H0 Hs0 ta τ H fun c H1=>if c=true then RT X H0 Hs0 tb τ H1 Q else Q false H1:=by
 obtain⟨Hs,σ,S,h⟩:=h
 refine⟨Hs,σ,S,pj.mono (pj.bind h) fun c H1 ⟨Hs1,g1,h1⟩=>?_⟩
 cases c with
 |true=>exact⟨Hs1,σ,S.grow g1,h1⟩
 |false=>exact h1 Hs1 H1 (.refl g1.i)
theorem zf{τ:L2.St}{H:Hp}{Q:Bool→Hp→Prop}(h:RT X H0 Hs0 (tOr ta tb) τ H Q):RT X H0 Hs0 ta τ H fun c H1=>if c=true then Q true H1 else RT X H0 Hs0 tb τ H1 Q:=by
 obtain⟨Hs,σ,S,h⟩:=h
 refine⟨Hs,σ,S,pj.mono (pj.bind h) fun c H1 ⟨Hs1,g1,h1⟩=>?_⟩
 cases c with
 |true=>exact h1 Hs1 H1 (.refl g1.i)
 |false=>exact⟨Hs1,σ,S.grow g1,h1⟩
theorem yF(ha:QT X H0 Hs0 a ta):QW X H0 Hs0 (.BoolOp .And [a] pos) ta:=yQ ha
theorem A0(ha:QT X H0 Hs0 a ta):QW X H0 Hs0 (.BoolOp .Or [a] pos) ta:=Bm ha
theorem A3(ha:QT X H0 Hs0 a ta)(hb:QW X H0 Hs0 (.BoolOp .And (b::rest) pos) tb):QW X H0 Hs0 (.BoolOp .And (a::b::rest) pos) (nM ta tb):=PW.imp (Bn ha hb) fun _ _ _ h=>xX h
theorem Dg(ha:QT X H0 Hs0 a ta)(hb:QW X H0 Hs0 (.BoolOp .Or (b::rest) pos) tb):QW X H0 Hs0 (.BoolOp .Or (a::b::rest) pos) (tOr ta tb):=PW.imp (Dz ha hb) fun _ _ _ h=>zf h
theorem QW.qt(h:QW X H0 Hs0 a ta):QT X H0 Hs0 a ta:=PW.pt h
theorem A5(ha:QT X H0 Hs0 a ta):QT X H0 Hs0 (.UnaryOp .Not a pos) (eS ta):=PT.imp (Bq ha) fun τ H Q h=>by
 obtain⟨Hs,σ,S,h⟩:=h
 exact⟨Hs,σ,S,pj.mono (pj.bind h) fun c H1 ⟨Hs1,g1,h1⟩=>h1 Hs1 H1 (.refl g1.i)⟩
def rR(a b:DE):DE:=fun σ=>(a σ).bind fun p=>(asB p).bind fun c=>if c=true then b σ else .ok (.bl false)
def eOr(a b:DE):DE:=fun σ=>(a σ).bind fun p=>(asB p).bind fun c=>if c=true then .ok (.bl true) else b σ
def zd(p:PV):Res PV:=(asB p).bind fun c=>.ok (.bl (!c))
theorem Dl{op:BoolOp}(ha:QE X H0 Hs0 a da):QE X H0 Hs0 (.BoolOp op [a] pos) da:=BA ha
theorem jg{p:PV}{K:PySem.W.Frag}{Hs H:Hp}{x:V}{f:Bool→Res PV}{EO:Str→Prop}{Q:VK}(r:Rep K Hs x p)(h:Ret K Hs H ((asB p).bind f) EO Q):∃c,x=.bl c∧Ret K Hs H (f c) EO Q:=by
 cases p with
 |bl c=>exact⟨c,r.bl_inv,h⟩
 |_=>exact h.elim
theorem Dy(ha:QE X H0 Hs0 a da)(hb:QE X H0 Hs0 (.BoolOp .And (b::rest) pos) db):QE X H0 Hs0 (.BoolOp .And (a::b::rest) pos) (rR da db):=
 PE.imp (BF ha hb) fun τ H Q ⟨Hs,σ,S,h⟩=>⟨Hs,σ,S,Ret.mono (Ret.bind h) fun x H1 ⟨Hs1,p,g1,r1,h1⟩=>by
  obtain⟨c,e,h2⟩:=jg r1 h1
  refine⟨c,e,?_⟩
  cases c with
  |true=>exact⟨Hs1,σ,S.grow g1,h2⟩
  |false=>exact gJ h2 g1.i⟩
theorem Fg(ha:QE X H0 Hs0 a da)(hb:QE X H0 Hs0 (.BoolOp .Or (b::rest) pos) db):QE X H0 Hs0 (.BoolOp .Or (a::b::rest) pos) (eOr da db):=
 PE.imp (DD ha hb) fun τ H Q ⟨Hs,σ,S,h⟩=>⟨Hs,σ,S,Ret.mono (Ret.bind h) fun x H1 ⟨Hs1,p,g1,r1,h1⟩=>by
  obtain⟨c,e,h2⟩:=jg r1 h1
  refine⟨c,e,?_⟩
  cases c with
  |true=>exact gJ h2 g1.i
  |false=>exact⟨Hs1,σ,S.grow g1,h2⟩⟩
theorem Dm(ha:QE X H0 Hs0 a da):QE X H0 Hs0 (.UnaryOp .Not a pos) (e1 zd da):=
 PE.imp (BB ha) fun τ H Q h=>by
  obtain⟨Hs,σ,S,h⟩:=one h
  refine⟨Hs,σ,S,Ret.mono h fun x H1 ⟨Hs1,p,i,r,h1⟩=>?_⟩
  obtain⟨c,e,h2⟩:=jg r h1
  exact⟨c,e,gJ h2 i⟩
def aj:DA:=fun _=>.ok []
def aa(a:DE)(r:DA):DA:=fun σ=>(a σ).bind fun p=>(r σ).bind fun ps=>.ok (p::ps)
theorem ph.mono{K:PySem.W.Frag}{Hs H:Hp}{r:Res (List PV)}{EO:Str→Prop}{Q Q':List V→Hp→Prop}(h:ph K Hs H r EO Q)(m:∀v H',Q v H'→Q' v H'):ph K Hs H r EO Q':=by
 cases r with
 |ok p=>exact fun v Hs' H' g r=>m _ _ (h v Hs' H' g r)
 |err c=>exact h
 |stuck=>exact h
theorem ph.grow{K:PySem.W.Frag}{Hs H Hs1 H1:Hp}{r:Res (List PV)}{EO:Str→Prop}{Q:List V→Hp→Prop}(h:ph K Hs H r EO Q)(g:Grow Hs H Hs1 H1):ph K Hs1 H1 r EO Q:=by
 cases r with
 |ok p=>exact fun v Hs' H' g' r=>h v Hs' H' (g.trans g') r
 |err c=>exact h
 |stuck=>exact h
theorem ph.bind1{K:PySem.W.Frag}{Hs H:Hp}{r:Res PV}{f:PV→Res (List PV)}{EO:Str→Prop}{Q:List V→Hp→Prop}(h:ph K Hs H (r.bind f) EO Q):
  Ret K Hs H r EO fun v H1=>∃Hs1 p,Grow Hs H Hs1 H1∧Rep K Hs1 v p∧ph K Hs1 H1 (f p) EO Q:=by
 cases r with
 |ok p=>exact fun v Hs' H' g r=>⟨Hs',p,g,r,ph.grow (r:=f p) h g⟩
 |err c=>exact h
 |stuck=>exact h
theorem Ret.bindA{K:PySem.W.Frag}{Hs H:Hp}{r:Res (List PV)}{f:List PV→Res PV}{EO:Str→Prop}{Q:VK}(h:Ret K Hs H (r.bind f) EO Q):
  ph K Hs H r EO fun v H1=>∃Hs1 p,Grow Hs H Hs1 H1∧Reps K Hs1 v p∧Ret K Hs1 H1 (f p) EO Q:=by
 cases r with
 |ok p=>exact fun v Hs' H' g r=>⟨Hs',p,g,r,Ret.grow (r:=f p) h g⟩
 |err c=>exact h
 |stuck=>exact h
theorem vN:QA X H0 Hs0 [] aj:=PA.imp fD fun τ H Q ⟨Hs,σ,S,h⟩=>h [] Hs H (.refl S.g.i) .nil
theorem uM{ra:DA}{τ:L2.St}{H:Hp}{Q:List V→Hp→Prop}(h:RA X H0 Hs0 (aa da ra) τ H Q):Am (RE X H0 Hs0 da) (RA X H0 Hs0 ra) τ H Q:=by
 obtain⟨Hs,σ,S,h⟩:=h
 refine⟨Hs,σ,S,Ret.mono (ph.bind1 h) fun x H1 ⟨Hs1,p,g1,r1,h1⟩=>⟨Hs1,σ,S.grow g1,?_⟩⟩
 revert h1
 generalize ra σ=r
 intro h1
 cases r with
 |ok ps=>exact fun vs Hs' H' g r=>h1 _ Hs' H' g (.cons (r1.mono g.s) r)
 |err c=>exact h1
 |stuck=>exact h1
theorem su{es:List Expr}{ra:DA}(ha:QE X H0 Hs0 a da)(hr:QA X H0 Hs0 es ra)(hs:starEach (a::es) X.env=(false,eval a X.env)::starEach es X.env):QA X H0 Hs0 (a::es) (aa da ra):=
 PA.imp (cJ ha hr hs) fun τ H Q h=>uM h
def cN(ps:List PV):Res PV:=if ps.length≤10000000 then .ok (.tup ps) else .stuck
def iM(ps:List PV):Res PV:=if ps.length≤10000000 then .ok (.lst ps) else .stuck
def eA(g:List PV→Res PV)(a:DA):DE:=fun σ=>(a σ).bind g
theorem qU{n:Nat}(h:n≤10000000):n≤sizeLine:=by rw[sizeLine_eq];omega
theorem fT{g:List PV→Res PV}{ra:DA}{τ:L2.St}{H:Hp}{Q:VK}(h:RE X H0 Hs0 (eA g ra) τ H Q):
  RA X H0 Hs0 ra τ H fun vs H1=>∃Hs ps,bc Hs H1∧Reps X.K Hs vs ps∧Ret X.K Hs H1 (g ps) (bI X H0 Hs0) Q:=by
 obtain⟨Hs,σ,S,h⟩:=h
 exact⟨Hs,σ,S,ph.mono (Ret.bindA h) fun x H1 ⟨Hs1,p,g1,r1,h1⟩=>⟨Hs1,p,g1.i,r1,h1⟩⟩
theorem RA.mono{ra:DA}{τ:L2.St}{H:Hp}{Q Q':List V→Hp→Prop}(h:RA X H0 Hs0 ra τ H Q)(m:∀v H',Q v H'→Q' v H'):RA X H0 Hs0 ra τ H Q':=
 let⟨Hs,σ,S,h⟩:=h;⟨Hs,σ,S,ph.mono h m⟩
theorem RE.mono{ra:DE}{τ:L2.St}{H:Hp}{Q Q':VK}(h:RE X H0 Hs0 ra τ H Q)(m:∀v H',Q v H'→Q' v H'):RE X H0 Hs0 ra τ H Q':=
 let⟨Hs,σ,S,h⟩:=h;⟨Hs,σ,S,Ret.mono h m⟩
theorem Dj{es:List Expr}{ra:DA}{x1}(h:QA X H0 Hs0 es ra):QE X H0 Hs0 (.Tuple es x1 pos) (eA cN ra):=
 PE.imp (Bz h) fun τ H Q h=>RA.mono (fT h) fun vs H1 ⟨Hs,ps,i,r,h1⟩=>by
  unfold cN at h1
  split at h1
  ·rename_i hl
   exact⟨qU (by rw[r.length];exact hl),fun p hp=>h1 _ _ _ (.new i hp) (.tup (SqT.of aC) (r.mono (bM (i.free hp))))⟩
  ·exact h1.elim
theorem Dr{es:List Expr}{ra:DA}(h:QA X H0 Hs0 es ra):QE X H0 Hs0 (.List es pos) (eA iM ra):=
 PE.imp (vX h) fun τ H Q h=>RA.mono (fT h) fun vs H1 ⟨Hs,ps,i,r,h1⟩=>by
  unfold iM at h1
  split at h1
  ·rename_i hl
   exact⟨qU (by rw[r.length];exact hl),fun p hp=>h1 _ _ _ (.new i hp) (.lst aC (r.mono (bM (i.free hp))))⟩
  ·exact h1.elim
def gw(X:Cx)(f:Value)(g:List PV→Res PV):Prop:=
 ∀(EO:Str→Prop),gv X f fun xs H Q=>∃Hs ps,bc Hs H∧Reps X.K Hs xs ps∧Ret X.K Hs H (g ps) EO Q
theorem sx{x:Str}{id:String}{p:Pos}{e:Expr}{es:List Expr}{g:List PV→Res PV}{ra:DA}(hc:gw X (.builtin id) g)(hg:Gl X x)(hm:X.mg x=none)(hv:bootBuiltins x=some (.builtin id))(ha:QA X H0 Hs0 (e::es) ra)
  (hn:x≠"__name__") (hdb:(x==("__debug__":Str))=false) (he:starEach (e::es) X.env=(false,eval e X.env)::starEach es X.env) (hpl:(backTo pos (starEach es X.env)).any (·.1)=false):
  QE X H0 Hs0 (.Call (.Name x p) (e::es) [] pos) (eA g ra):=
 PE.imp (lD (hc (bI X H0 Hs0)) hg hm hv ha hn hdb he hpl) fun τ H Q h=>fT h
theorem vQ{x:Str}{T:String}{p:Pos}{e:Expr}{es:List Expr}{g:List PV→Res PV}{ra:DA}(hc:gw X (.type T) g)(hg:Gl X x)(hm:X.mg x=none)(hv:bootBuiltins x=some (.type T))(ha:QA X H0 Hs0 (e::es) ra)
  (hn:x≠"__name__") (hdb:(x==("__debug__":Str))=false) (he:starEach (e::es) X.env=(false,eval e X.env)::starEach es X.env) (hpl:(backTo pos (starEach es X.env)).any (·.1)=false):
  QE X H0 Hs0 (.Call (.Name x p) (e::es) [] pos) (eA g ra):=
 PE.imp (uh (hc (bI X H0 Hs0)) hg hm hv ha hn hdb he hpl) fun τ H Q h=>fT h
def xR:List PV→Res PV
 |[.int i]=>.ok (.int (if i<0 then -i else i))
 |_=>.stuck
def kd:List PV→Res PV
 |[.tup xs]=>.ok (.int xs.length)
 |[.lst xs]=>.ok (.int xs.length)
 |[.scr ns]=>.ok (.int ns.length)
 |_=>.stuck
def rY:List PV→Res PV
 |[.int i,.int j]=>.ok (.int (if j>i then j else i))
 |_=>.stuck
def rX:List PV→Res PV
 |[.int i,.int j]=>.ok (.int (if j<i then j else i))
 |_=>.stuck
theorem Reps.one_inv{K:PySem.W.Frag}{H:Hp}{vs:List V}{p:PV}(r:Reps K H vs [p]):∃v,vs=[v]∧Rep K H v p:=by
 obtain⟨v,ws,rfl,r1,r2⟩:=r.cons_inv
 cases r2.nil_inv
 exact⟨v,rfl,r1⟩
theorem Reps.two_inv{K:PySem.W.Frag}{H:Hp}{vs:List V}{p q:PV}(r:Reps K H vs [p,q]):∃v w,vs=[v,w]∧Rep K H v p∧Rep K H w q:=by
 obtain⟨v,ws,rfl,r1,r2⟩:=r.cons_inv
 obtain⟨w,rfl,r3⟩:=r2.one_inv
 exact⟨v,w,rfl,r1,r3⟩
theorem xu:gw X (.builtin "abs") xR:=by
 intro EO pins s σ H xs us Q I r h
 obtain⟨Hs,ps,i,rp,h⟩:=h
 unfold xR at h
 split at h
 ·obtain⟨v,rfl,r1⟩:=rp.one_inv
  cases r1.int_inv
  exact xH pins s σ H _ us Q I r ⟨_,rfl,bA h i⟩
 ·exact h.elim
theorem xt:gw X (.builtin "len") kd:=by
 intro EO pins s σ H xs us Q I r h
 obtain⟨Hs,ps,i,rp,h⟩:=h
 unfold kd at h
 split at h
 ·obtain⟨v,rfl,r1⟩:=rp.one_inv
  obtain⟨a,vs,rfl,ha,ra⟩:=r1.tup_inv
  exact d9 pins s σ H _ us Q I r ⟨a,vs,rfl,.inr (bL i ha),by rw[ra.length];exact bA h i⟩
 ·obtain⟨v,rfl,r1⟩:=rp.one_inv
  obtain⟨a,vs,rfl,ha,ra⟩:=r1.lst_inv
  exact d9 pins s σ H _ us Q I r ⟨a,vs,rfl,.inl (SqL.of (i _ _ ha)),by rw[ra.length];exact bA h i⟩
 ·obtain⟨v,rfl,r1⟩:=rp.one_inv
  obtain⟨a,rfl,ha⟩:=r1.scr_inv
  exact d9 pins s σ H _ us Q I r ⟨a,_,rfl,.inl (i.seq ha),by rw[List.length_map];exact bA h i⟩
 ·exact h.elim
theorem xr (hc:X.calm=true):gw X (.builtin "max") rY:=by
 intro EO pins s σ H xs us Q I r h
 obtain⟨Hs,ps,i,rp,h⟩:=h
 unfold rY at h
 split at h
 ·obtain⟨v,w,rfl,r1,r2⟩:=rp.two_inv
  cases r1.int_inv;cases r2.int_inv
  exact uR hc pins s σ H _ us Q I r ⟨_,_,rfl,bA h i⟩
 ·exact h.elim
theorem xq (hc:X.calm=true):gw X (.builtin "min") rX:=by
 intro EO pins s σ H xs us Q I r h
 obtain⟨Hs,ps,i,rp,h⟩:=h
 unfold rX at h
 split at h
 ·obtain⟨v,w,rfl,r1,r2⟩:=rp.two_inv
  cases r1.int_inv;cases r2.int_inv
  exact uP hc pins s σ H _ us Q I r ⟨_,_,rfl,bA h i⟩
 ·exact h.elim
def Fsp(K:PySem.W.Frag)(n:Nat)(m:List PV→Res PV):Sp:=fun vs H Q E=>vs.length=n∧∃Hs ps,bc Hs H∧Reps K Hs vs ps∧Ret K Hs H (m ps) (fun c=>∀(C:Addr)(Hs1 H1:Hp),dQ K c C→Grow Hs H Hs1 H1→E (.ref C) none H1) Q
structure FunIs (X:Cx) (f:Str) (m:List PV→Res PV):Prop where
 ex:∃(a:Addr)(fd:FuncData)(ps:List Str)(k:Nat),X.mg f=some (.ref a)∧PySem.W.keepIn X.K (.ref a)=true∧Binds X.K fd ps []∧Room k X.A∧(∀qs,qs.length≠ps.length→m qs=.stuck) ∧
  FnOk X.prog X.w X.K X.mg X.base (CXG X.prog X.w) k a fd ps (Fsp X.K ps.length m)
def noErr(r:Res PV):Res PV:=match r with
 |.err _=>.stuck
 |r=>r
theorem Ret.noErr{K:PySem.W.Frag}{Hs H:Hp}{r:Res PV}{EO EO':Str→Prop}{Q:VK}(h:Ret K Hs H (G.noErr r) EO Q):Ret K Hs H r EO' Q:=by
 cases r with
 |ok p=>exact h
 |err c=>exact h.elim
 |stuck=>exact h
theorem DK{X:Cx}:Passes (CXG X.prog X.w) X (fun _ _ _=>False):=fun _ _ _ _ _ _ _ ⟨_,_,_,_,_,_,_,_,_,_,_,z⟩=>z.elim
theorem Bl{x:Str}{p:Pos}{e:Expr}{es:List Expr}{m:List PV→Res PV}{ra:DA}(F:FunIs X x m)(hg:Gl X x)(ha:QA X H0 Hs0 (e::es) ra)
  (hdb:(x==("__debug__":Str))=false) (he:starEach (e::es) X.env=(false,eval e X.env)::starEach es X.env) (hpl:(backTo pos (starEach es X.env)).any (·.1)=false):
  QE X H0 Hs0 (.Call (.Name x p) (e::es) [] pos) (eA (fun ps=>G.noErr (m ps)) ra):=by
 obtain⟨a,fd,ps,k,hm,hk,hb,hr,har,F⟩:=F.ex
 refine PE.imp (yZ F hr hg hm hk hb .nil DK ha hdb he hpl) fun τ H Q h=>RA.mono (fT h) fun vs H1 ⟨Hs,qs,i,r,h1⟩=>?_
 rw[List.append_nil]
 refine⟨?_,Hs,qs,i,r,h1.noErr⟩
 by_cases hl:qs.length=ps.length
 ·rw[r.length,hl]
 ·rw[har qs hl]at h1;exact h1.elim
def atR{α:Type}(xs:List α)(i:Int)(f:α→PV):Res PV:=match atI xs i with
 |some x=>.ok (f x)
 |none=>.stuck
def pIx:PV→PV→Res PV
 |.tup ps,.int i=>atR ps i id
 |.lst ps,.int i=>atR ps i id
 |.scr ns,.int i=>atR ns i .int
 |_,_=>.stuck
theorem o8{K:PySem.W.Frag}{H:Hp}{vs:List V}{ps:List PV}{i:Int}{p:PV}(r:Reps K H vs ps)(h:atI ps i=some p):∃v,atI vs i=some v∧Rep K H v p:=by
 unfold atI at h ⊢
 rw[r.length]
 cases e:ixN ps.length i with
 |none=>rw[e]at h;cases h
 |some j=>rw[e]at h;exact r.get h
theorem Dt(ha:QE X H0 Hs0 a da)(hb:QE X H0 Hs0 b db)(hs:kW b):QE X H0 Hs0 (.Subscript a b pos) (e2 pIx da db):=
 PE.imp (Ap Ci ha hb hs) fun τ H Q h=>RE.mono (two h) fun x H1 h1=>RE.mono h1 fun y H2 ⟨Hs,p,q,i,rp,rq,h2⟩=>by
  unfold pIx at h2
  split at h2
  ·obtain⟨ad,vs,rfl,ht,r⟩:=rp.tup_inv
   cases rq.int_inv
   unfold atR at h2
   split at h2
   ·rename_i x hx
    obtain⟨v,hv,rv⟩:=o8 r hx
    exact .inr (.inl ⟨ad,vs,_,v,rfl,rfl,bL i ht,hv,h2 v Hs H2 (.refl i) rv⟩)
   ·exact h2.elim
  ·obtain⟨ad,vs,rfl,ht,r⟩:=rp.lst_inv
   cases rq.int_inv
   unfold atR at h2
   split at h2
   ·rename_i x hx
    obtain⟨v,hv,rv⟩:=o8 r hx
    exact .inl ⟨ad,vs,_,v,rfl,rfl,SqL.of (i _ _ ht),hv,h2 v Hs H2 (.refl i) rv⟩
   ·exact h2.elim
  ·obtain⟨ad,rfl,ht⟩:=rp.scr_inv
   cases rq.int_inv
   unfold atR at h2
   split at h2
   ·rename_i x hx
    obtain⟨v,hv,rv⟩:=o8 (K:=X.K) (H:=Hs) (Reps.ints _) (show atI (List.map PV.int _) _=some (.int x) by
     unfold atI at hx ⊢
     rw[List.length_map]
     cases e:ixN _ _ with
     |none=>rw[e]at hx;cases hx
     |some j=>
      rw[e]at hx
      show(List.map PV.int _)[j]? = _
      rw[List.getElem?_map]
      show Option.map PV.int _=_
      rw[show _[j]? = some x from hx];rfl)
    exact .inl ⟨ad,_,_,v,rfl,rfl,i.seq ht,hv,h2 v Hs H2 (.refl i) rv⟩
   ·exact h2.elim
  ·exact h2.elim
def ah(k:Nat)(db:DE):DE:=fun σ=>match σ[k]? with
 |some (some (.own xs))=>(db σ).bind fun q=>pIx (.lst xs) q
 |some (some (.sh p))=>(db σ).bind fun q=>pIx p q
 |_=>.stuck
theorem Ds {k:Nat} {x:Str} {np:Pos} (hN:X.N[k]? = some x) (hv:Vis X.env.scope x) (hd:(x==("__debug__":Str))=false) (hcd:(x==("__classdict__":Str))=false) (hb:QE X H0 Hs0 b db) (hs:kW b):
  QE X H0 Hs0 (.Subscript (.Name x np) b pos) (ah k db):=by
 intro pins s τ H Q I ⟨Hs,σ,S,h⟩
 unfold ah at h
 split at h
 ·rename_i xs e
  obtain⟨v,e1,ad,vs,rfl,hH,hHs,hH0,r⟩:=S.slot k _ e
  refine Ap zF (i7 hN hv hd hcd) hb hs pins s τ H Q I ⟨_,e1,Hs,σ,S,Ret.mono (Ret.bind h) fun y H1 ⟨Hs1,q,g1,rq,h1⟩=>?_⟩
  cases q with
  |int i=>
   cases rq.int_inv
   simp only[pIx]at h1
   unfold atR at h1
   split at h1
   ·rename_i x hx
    obtain⟨v,hv,rv⟩:=o8 r hx
    exact⟨ad,vs,_,v,rfl,rfl,SqL.of (g1.h _ _ hH),hv,h1 v Hs1 H1 (.refl g1.i) (rv.mono g1.s)⟩
   ·exact h1.elim
  |_=>exact h1.elim
 ·rename_i p e
  refine Dt (vO (i:=k) hN hv hd hcd) hb hs pins s τ H Q I ⟨Hs,σ,S,?_⟩
  show Ret X.K Hs H ((ae k σ).bind fun p=>(db σ).bind fun q=>pIx p q) _ Q
  unfold ae
  rw[e]
  exact h
 ·exact h.elim
def bj(k:Nat):DE:=fun σ=>match σ[k]? with
 |some (some (.own xs))=>.ok (.int xs.length)
 |some (some (.sh p))=>kd [p]
 |_=>.stuck
theorem Bj {k:Nat} {x:Str} {np p:Pos} (hN:X.N[k]? = some x) (hv:Vis X.env.scope x) (hd:(x==("__debug__":Str))=false) (hcd:(x==("__classdict__":Str))=false) (hg:Gl X "len") (hm:X.mg "len" = none)
  (he:starEach [.Name x np] X.env=[(false,eval (.Name x np) X.env)]) (hpl:(backTo pos (starEach [] X.env)).any (·.1)=false):QE X H0 Hs0 (.Call (.Name "len" p) [.Name x np] [] pos) (bj k):=by
 intro pins s τ H Q I ⟨Hs,σ,S,h⟩
 unfold bj at h
 split at h
 ·rename_i xs e
  obtain⟨v,e1,ad,vs,rfl,hH,hHs,hH0,r⟩:=S.slot k _ e
  refine lD d9 hg hm PySem.boot_len (cJ (i7 hN hv hd hcd) fD he) (by decide) (by decide) he hpl pins s τ H Q I ⟨_,e1,ad,vs,rfl,.inl (SqL.of hH),?_⟩
  rw[r.length];exact bA h S.g.i
 ·rename_i p' e
  refine sx xt hg hm PySem.boot_len (su (vO (i:=k) hN hv hd hcd) vN he) (by decide) (by decide) he hpl pins s τ H Q I ⟨Hs,σ,S,?_⟩
  show Ret X.K Hs H (((ae k σ).bind fun p=>(aj σ).bind fun ps=>.ok (p::ps)).bind kd) _ Q
  unfold ae
  rw[e]
  exact h
 ·exact h.elim
end
end G
namespace G
open PySem PySem.Spec PyProof.Rows L2
def tyName:PV→String
 |.non=>"NoneType"
 |.bl _=>"bool"
 |.int _=>"int"
 |.str _=>"str"
 |.tup _=>"tuple"
 |.lst _=>"list"
 |.scr _=>"list"
 |.dic=>"dict"
 |.exc _=>"exception"
 |.ob _ _ _=>"object"
def fO (t T:String):Bool:=t==T||(t == "bool" && T == "int")
def c5:List String:=["int","bool","tuple","list","str","dict"]
def oz:PV→Bool
 |.exc _=>false
 |.ob _ _ _=>false
 |_=>true
def jX(T:String)(p:PV):Res PV:=if oz p=true then .ok (.bl (fO (tyName p) T)) else .stuck
theorem B9(K:PySem.W.Frag)(p:PV)(T:String)(hx:oz p=true)(h:T∈c5):PySem.W.kitOne K (.type (tyName p)) (.type T)=some (fO (tyName p) T):=by
 have h':T = "int"∨T = "bool"∨T = "tuple"∨T = "list"∨T = "str"∨T = "dict":=by simpa[c5] using h
 cases p<;>first | (cases hx;done) | (rcases h' with rfl|rfl|rfl|rfl|rfl|rfl<;>kernel_rfl)
section
variable {X:Cx}{H0 Hs0:Hp}{a b c:Expr}{da db dc:DE}{pos:Pos}
theorem wR{pins:List (Addr×Obj)}{τ:L2.St}{Hs H:Hp}{s:Shared}{Q:Value→Shared→Prop}{E:Value→Shared→Prop}{x:V}{u:Value}{p:PV}{T:String}(I:Inv X pins τ H s)(i:bc Hs H)(rx:RelV x u)(r:Rep X.K Hs x p)(hx:oz p=true)(hT:T∈c5)
  (h:∀tk,Q (.bool (fO (tyName p) T)) { s with toks:=tk }):wpAny (model X.prog X.w) X.A (call (.builtin "isinstance") [u,.type T]) Q E s:=by
 have e:=B9 X.K p T hx hT
 cases r with
 |non=>exact eI I rx .non e h
 |bl b=>exact eI I rx (.bl b) e h
 |int k=>exact eI I rx (.int k) e h
 |str y=>exact eI I rx (.str y) e h
 |lst hl _=>exact eI I rx (.lst (i _ _ hl)) e h
 |dic hl=>exact eI I rx (.dK (i _ _ hl)) e h
 |exc _ _=>cases hx
 |ob _ _ _ _ _=>cases hx
 | @tup a xs ps ht _=>
  cases (show u=Value.ref a from rx)
  obtain⟨its,rv,o,h1,h2,_⟩:=tup_is I (bL i ht)
  exact PySem.W.kia_one PySem.W.kitx_tuple I.kIn ⟨o,h1,h2⟩ e (fun z=>nomatch z) h
 | @scr a ns hl=>
  cases (show u=Value.ref a from rx)
  obtain⟨its,rv,pl,_⟩:=I.list (i.seq hl)
  obtain⟨o,n,h1,h2,_⟩:=pl
  exact PySem.W.kia_one PySem.W.kitx_list I.kIn ⟨o,h1,h2⟩ e (fun z=>nomatch z) h
theorem xG:gv X (.builtin "isinstance") (fun xs H Q=>∃Hs x p T,xs=[x,.ty T]∧bc Hs H∧Rep X.K Hs x p∧oz p=true∧T∈c5∧Q (.bl (fO (tyName p) T)) H):=by
 intro pins s σ H xs us Q I r h
 obtain⟨Hs,x,p,T,rfl,i,rp,hx,hT,q⟩:=h
 cases r with
 |cons r1 r2=>
  cases r2 with
  |cons r3 r4=>
   cases r4
   cases (show _=Value.type T from r3)
   exact wR I i r1 rp hx hT fun tk=>⟨.bl _,H,I.tok tk,rfl,q⟩
theorem xK:bootBuiltins "isinstance" = some (.builtin "isinstance"):=by decide +kernel
theorem Du {T:String} {x:Str} {p1 p2:Pos} (ha:QE X H0 Hs0 a da) (hT:T∈c5) (hx:bootBuiltins x=some (.type T)) (hg:Gl X "isinstance") (hm:X.mg "isinstance" = none) (hg2:Gl X x) (hm2:X.mg x=none) (hn:x≠"__name__")
  (hdb:(x==("__debug__":Str))=false) (h1:starEach [a,.Name x p2] X.env=(false,eval a X.env)::starEach [.Name x p2] X.env) (h2:starEach [.Name x p2] X.env=[(false,eval (.Name x p2) X.env)])
  (hpl:(backTo pos (starEach [.Name x p2] X.env)).any (·.1)=false):QE X H0 Hs0 (.Call (.Name "isinstance" p1) [a,.Name x p2] [] pos) (e1 (jX T) da):=
 PE.imp (lD xG hg hm xK (cJ ha (cJ (za (v:=.ty T) hg2 hm2 hx rfl hn hdb) fD h2) h1) (by decide) (by decide) h1 hpl) fun τ H Q h=>
  RE.mono (one h) fun x H1 ⟨Hs,p,i,r,h1⟩=>by
   unfold jX at h1
   split at h1
   ·rename_i hx
    exact⟨Hs,x,p,T,rfl,i,r,hx,hT,gJ h1 i⟩
   ·exact h1.elim
def l6{α:Type}(xs:List α)(lo hi:Option Int):List α:=(xs.drop (HT.sIx xs.length 0 lo)).take (HT.sIx xs.length xs.length hi-HT.sIx xs.length 0 lo)
theorem Reps.cut{K:PySem.W.Frag}{H:Hp}{vs:List V}{ps:List PV}(r:Reps K H vs ps)(lo hi:Option Int):Reps K H (qx vs lo hi) (l6 ps lo hi):=by
 unfold qx l6
 rw[r.length]
 exact(r.drop _).take _
abbrev DO:=PSt→Res (Option Int)
def oNo:DO:=fun _=>.ok none
def asI:PV→Res (Option Int)
 |.int i=>.ok (some i)
 |_=>.stuck
def oE(d:DE):DO:=fun σ=>(d σ).bind asI
def pSl(p:PV)(lo hi:Option Int):Res PV:=match p with
 |.lst xs=>.ok (.lst (l6 xs lo hi))
 |.scr ns=>.ok (.lst (l6 (ns.map PV.int) lo hi))
 |.tup xs=>if HT.sIx xs.length 0 lo=0∧HT.sIx xs.length xs.length hi=xs.length then .stuck else .ok (.tup (l6 xs lo hi))
 |_=>.stuck
def eSl(a:DE)(lo hi:DO):DE:=fun σ=>(a σ).bind fun p=>(lo σ).bind fun l=>(hi σ).bind fun h=>pSl p l h
def Af(Hs H:Hp)(r:Res (Option Int))(EO:Str→Prop)(Q:Option Int→Hp→Prop):Prop:=match r with
 |.ok b=>∀Hs' H',Grow Hs H Hs' H'→Q b H'
 |.err c=>EO c
 |.stuck=>False
def RO(X:Cx)(H0 Hs0:Hp)(d:DO):TO:=fun τ H Q=>∃Hs σ,SR X.K H0 Hs0 Hs H σ τ∧Af Hs H (d σ) (bI X H0 Hs0) Q
def QO(X:Cx)(H0 Hs0:Hp)(e:Option Expr)(d:DO):Prop:=PO X e (RO X H0 Hs0 d)
theorem PO.imp{e:Option Expr}{t t':TO}(h:PO X e t)(m:∀τ H Q,t' τ H Q→t τ H Q):PO X e t':=fun pins s σ H Q I q=>h pins s σ H Q I (m _ _ _ q)
theorem yK:QO X H0 Hs0 none oNo:=PO.imp yW fun τ H Q ⟨Hs,σ,S,h⟩=>h Hs H (.refl S.g.i)
theorem yJ(ha:QE X H0 Hs0 a da):QO X H0 Hs0 (some a) (oE da):=PO.imp (yV ha) fun τ H Q ⟨Hs,σ,S,h⟩=>by
 refine⟨Hs,σ,S,?_⟩
 unfold oE at h
 generalize da σ=r at h ⊢
 cases r with
 |ok p=>
  cases p with
  |int k=>exact fun v Hs' H' g r=>⟨k,r.int_inv,h Hs' H' g⟩
  |_=>exact h.elim
 |err c=>exact h
 |stuck=>exact h
theorem Af.mono{Hs H:Hp}{r:Res (Option Int)}{EO:Str→Prop}{Q Q':Option Int→Hp→Prop}(h:Af Hs H r EO Q)(m:∀v H',Q v H'→Q' v H'):Af Hs H r EO Q':=by
 cases r with
 |ok p=>exact fun Hs' H' g=>m _ _ (h Hs' H' g)
 |err c=>exact h
 |stuck=>exact h
theorem Ret.bindO{K:PySem.W.Frag}{Hs H:Hp}{r:Res (Option Int)}{f:Option Int→Res PV}{EO:Str→Prop}{Q:VK}(h:Ret K Hs H (r.bind f) EO Q):
  Af Hs H r EO fun b H1=>∃Hs1,Grow Hs H Hs1 H1∧Ret K Hs1 H1 (f b) EO Q:=by
 cases r with
 |ok p=>exact fun Hs' H' g=>⟨Hs',g,Ret.grow (r:=f p) h g⟩
 |err c=>exact h
 |stuck=>exact h
theorem yO{lo hi:Option Expr}{dl dh:DO}{p2:Pos}(ha:QE X H0 Hs0 a da)(hl:QO X H0 Hs0 lo dl)(hh:QO X H0 Hs0 hi dh):QE X H0 Hs0 (.Subscript a (.Slice lo hi none p2) pos) (eSl da dl dh):=
 PE.imp (vW (Ej.or AR) ha hl hh) fun τ H Q ⟨Hs,σ,S,h⟩=>by
  refine⟨Hs,σ,S,Ret.mono (Ret.bind h) fun x H1 ⟨Hs1,p,g1,r1,h1⟩=>⟨Hs1,σ,S.grow g1,Af.mono (Ret.bindO h1) fun l H2 ⟨Hs2,g2,h2⟩=>⟨Hs2,σ,(S.grow g1).grow g2,Af.mono (Ret.bindO h2) fun u H3 ⟨Hs3,g3,h3⟩=>?_⟩⟩⟩
  have r3:=(r1.mono g2.s).mono g3.s
  have i:=g3.i
  unfold pSl at h3
  split at h3
  ·obtain⟨ad,vs,rfl,ht,r⟩:=r3.lst_inv
   exact .inl ⟨ad,vs,rfl,SqL.of (i _ _ ht),fun q hq=>h3 _ _ _ (.new i hq) (.lst aC (Reps.mono (bM (i.free hq)) (r.cut l u)))⟩
  ·obtain⟨ad,rfl,ht⟩:=r3.scr_inv
   exact .inl ⟨ad,_,rfl,i.seq ht,fun q hq=>h3 _ _ _ (.new i hq) (.lst aC ((Reps.ints _).cut l u))⟩
  ·split at h3
   ·exact h3.elim
   ·rename_i hw
    obtain⟨ad,vs,rfl,ht,r⟩:=r3.tup_inv
    exact .inr ⟨ad,vs,rfl,bL i ht,by rw[r.length];exact hw,fun q hq=>h3 _ _ _ (.new i hq) (.tup (SqT.of aC) (Reps.mono (bM (i.free hq)) (r.cut l u)))⟩
  ·exact h3.elim
def aQ:DS:=fun σ=>.ok (.next σ)
def ao(a b:DS):DS:=fun σ=>(a σ).bind fun f=>match f with
 |.next σ'=>b σ'
 |f=>.ok f
def aJ(d:DE):DS:=fun σ=>(d σ).bind fun p=>.ok (.ret p)
def sIf(t:DT)(a b:DS):DS:=fun σ=>(t σ).bind fun c=>if c=true then a σ else b σ
def av(i:Nat)(d:DE):DS:=fun σ=>(d σ).bind fun p=>.ok (.next (σ.set i (some (.sh p))))
theorem gy.same{D:Ends}{Hs Hs' H H':Hp}{r:Res Fl}(h:gy X H0 Hs0 D Hs H r)(e:bc Hs Hs'):gy X H0 Hs0 D Hs' H' r:=by
 cases r with
 |ok f=>
  cases f with
  |next σ'=>exact fun Hs2 H2 τ' e' S=>h Hs2 H2 τ' (e.trans e') S
  |brk σ'=>exact fun Hs2 H2 τ' e' S=>h Hs2 H2 τ' (e.trans e') S
  |cont σ'=>exact fun Hs2 H2 τ' e' S=>h Hs2 H2 τ' (e.trans e') S
  |ret p=>exact h
 |err c=>exact h
 |stuck=>exact h
theorem gy.bind1{D:Ends}{Hs H:Hp}{r:Res PV}{f:PV→Res Fl}(h:gy X H0 Hs0 D Hs H (r.bind f)):
  Ret X.K Hs H r (bI X H0 Hs0) fun v H1=>∃Hs1 p,Grow Hs H Hs1 H1∧Rep X.K Hs1 v p∧gy X H0 Hs0 D Hs1 H1 (f p):=by
 cases r with
 |ok p=>exact fun v Hs' H' g r=>⟨Hs',p,g,r,gy.same (r:=f p) h g.s⟩
 |err c=>exact h
 |stuck=>exact h
theorem gy.bindB{D:Ends}{Hs H:Hp}{r:Res Bool}{f:Bool→Res Fl}(h:gy X H0 Hs0 D Hs H (r.bind f)):
  pj Hs H r (bI X H0 Hs0) fun b H1=>∃Hs1,Grow Hs H Hs1 H1∧gy X H0 Hs0 D Hs1 H1 (f b):=by
 cases r with
 |ok p=>exact fun Hs' H' g=>⟨Hs',g,gy.same (r:=f p) h g.s⟩
 |err c=>exact h
 |stuck=>exact h
variable {st:Stmt}{sts:List Stmt}{d1 d2:DS}
theorem yH:QSs X H0 Hs0 [] aQ:=PSs.imp yU fun D τ H ⟨Hs,σ,S,h⟩=>h Hs H τ (bc.refl _) S
theorem vh{D:Ends}{τ:L2.St}{H:Hp}(h:RS X H0 Hs0 (ao d1 d2) D τ H):RS X H0 Hs0 d1 { D with nx:=RS X H0 Hs0 d2 D } τ H:=by
 obtain⟨Hs,σ,S,h⟩:=h
 refine⟨Hs,σ,S,?_⟩
 unfold ao at h
 generalize d1 σ=r at h ⊢
 cases r with
 |ok f=>
  cases f with
  |next σ'=>exact fun Hs' H' τ' e S'=>⟨Hs',σ',S',gy.same (r:=d2 σ') h e⟩
  |brk σ'=>exact h
  |cont σ'=>exact h
  |ret p=>exact h
 |err c=>exact h
 |stuck=>exact h
theorem vF(h1:QS X H0 Hs0 st d1)(h2:QSs X H0 Hs0 sts d2):QSs X H0 Hs0 (st::sts) (ao d1 d2):=PSs.imp (vR h1 h2) fun D τ H h=>vh h
theorem yG(h1:QS X H0 Hs0 st d1):QSs X H0 Hs0 [st] d1:=yT h1
theorem A7(ha:QE X H0 Hs0 a da):QS X H0 Hs0 (.Return (some a) pos) (aJ da):=PS.imp (Br ha) fun D τ H ⟨Hs,σ,S,h⟩=>
 ⟨Hs,σ,S,Ret.mono (gy.bind1 h) fun x H1 ⟨Hs1,p,g1,r1,h1⟩=>h1 x Hs1 H1 (S.grow g1).g r1⟩
theorem Dh{t:DT}{ss1 ss2:List Stmt}(hc:QT X H0 Hs0 c t)(h1:QSs X H0 Hs0 ss1 d1)(h2:QSs X H0 Hs0 ss2 d2):QS X H0 Hs0 (.If c ss1 ss2 pos) (sIf t d1 d2):=
 PS.imp (DB hc h1 h2) fun D τ H ⟨Hs,σ,S,h⟩=>⟨Hs,σ,S,pj.mono (gy.bindB h) fun k H1 ⟨Hs1,g1,h1⟩=>by
  cases k with
  |true=>exact⟨Hs1,σ,S.grow g1,h1⟩
  |false=>exact⟨Hs1,σ,S.grow g1,h1⟩⟩
theorem bh{α:Type}{l:List α}{i j:Nat}{x y:α}(h:(l.set i x)[j]? = some y):(j=i∧x=y∧i<l.length)∨(j≠i∧l[j]? = some y):=by
 rw[List.getElem?_set]at h
 split at h
 ·rename_i e
  split at h
  ·exact .inl ⟨e.symm,Option.some.inj h,by omega⟩
  ·cases h
 ·rename_i e
  exact .inr ⟨fun z=>e z.symm,h⟩
theorem SR.set{K:PySem.W.Frag}{Hs H:Hp}{σ:PSt}{τ:L2.St}{v:V}{p:PV}(S:SR K H0 Hs0 Hs H σ τ)(i:Nat)(r:Rep K Hs v p):SR K H0 Hs0 Hs H (σ.set i (some (.sh p))) (τ.set i (some v)):=by
 refine⟨S.g,fun j sv e=>?_,fun j k xs ys ad hjk e1 e2 e3=>?_,by rw[List.length_set,List.length_set];exact S.len⟩
 ·rcases bh e with ⟨rfl,e',hl⟩|⟨hne,e'⟩
  ·cases e'
   refine⟨v,?_,r⟩
   rw[List.getElem?_set_self (by rw[←S.len];exact hl)]
  ·obtain⟨w,e1,r1⟩:=S.slot j sv e'
   exact⟨w,by rw[List.getElem?_set_ne (fun z=>hne z.symm)];exact e1,r1⟩
 ·rcases bh e1 with ⟨_,e',_⟩|⟨hj,e1'⟩
  ·cases e'
  ·rcases bh e2 with ⟨_,e',_⟩|⟨hk,e2'⟩
   ·cases e'
   ·rw[List.getElem?_set_ne (fun z=>hj z.symm)]at e3
    rw[List.getElem?_set_ne (fun z=>hk z.symm)]
    exact S.inj j k xs ys ad hjk e1' e2' e3
theorem vI{i:Nat}{x:Str}{pos':Pos}(hN:X.N.Nodup)(hi:X.N[i]? = some x)(hx:Loc X.env.scope x)(ha:QE X H0 Hs0 a da)(hs:swapsWith a (some (.Name x pos')) pos.line X.env=pure false)(hf:X.fn x=true∨X.env.scope.names.lookup x=some .local):
  QS X H0 Hs0 (.Assign [.Name x pos'] a pos) (av i da):=PS.imp (ri hN hi hx ha hs hf) fun D τ H ⟨Hs,σ,S,h⟩=>
 ⟨Hs,σ,S,Ret.mono (gy.bind1 h) fun v H1 ⟨Hs1,p,g1,r1,h1⟩=>h1 Hs1 H1 _ (bc.refl _) ((S.grow g1).set i r1)⟩
def wN(c:DT)(b:DS):Nat→PSt→Option (Res Fl)
 |0,_=>none
 |n+1,σ=>match c σ with
  |.ok true=>match b σ with
   |.ok (.next σ')=>wN c b n σ'
   |.ok (.cont σ')=>wN c b n σ'
   |.ok (.brk σ')=>some (.ok (.next σ'))
   |.ok (.ret p)=>some (.ok (.ret p))
   |.err e=>some (.err e)
   |.stuck=>some .stuck
  |.ok false=>some (.ok (.next σ))
  |.err e=>some (.err e)
  |.stuck=>some .stuck
open Classical in
noncomputable def cC(c:DT)(b:DS):DS:=fun σ=>if h:∃r n,wN c b n σ=some r then choose h else .stuck
theorem kz{cc:DT}{bb:DS}:∀{n:Nat}{σ:PSt}{r:Res Fl},wN cc bb n σ=some r→∀m,n≤m→wN cc bb m σ=some r
 |0,_,_,h,_,_=>by cases h
 |n+1,σ,r,h,0,hm=>by omega
 |n+1,σ,r,h,m+1,hm=>by
  unfold wN at h ⊢
  split at h
  ·split at h
   ·exact kz h m (by omega)
   ·exact kz h m (by omega)
   ·exact h
   ·exact h
   ·exact h
   ·exact h
  ·exact h
  ·exact h
  ·exact h
theorem ig{cc:DT}{bb:DS}{n:Nat}{σ:PSt}{r:Res Fl}(h:wN cc bb n σ=some r):cC cc bb σ=r:=by
 unfold cC
 have hex:∃r n,wN cc bb n σ=some r:=⟨r,n,h⟩
 rw[dif_pos hex]
 obtain⟨m,hm⟩:=Classical.choose_spec hex
 have h1:=kz h (max n m) (Nat.le_max_left _ _)
 have h2:=kz hm (max n m) (Nat.le_max_right _ _)
 rw[h1]at h2
 exact(Option.some.inj h2).symm
theorem ij(cc:DT)(bb:DS)(σ:PSt):cC cc bb σ=(cc σ).bind fun k=>if k=true then (bb σ).bind (fun f=>match f with
  |.next σ'=>cC cc bb σ'
  |.cont σ'=>cC cc bb σ'
  |.brk σ'=>.ok (.next σ')
  |.ret p=>.ok (.ret p)) else .ok (.next σ):=by
 by_cases hex:∃r n,wN cc bb n σ=some r
 ·obtain⟨r,n,h⟩:=hex
  rw[ig h]
  cases n with
  |zero=>cases h
  |succ n=>
   unfold wN at h
   split at h
   ·rename_i e
    rw[e]
    split at h
    ·rename_i σ' e';rw[e'];exact(ig h).symm
    ·rename_i σ' e';rw[e'];exact(ig h).symm
    ·rename_i σ' e';rw[e'];exact(Option.some.inj h).symm
    ·rename_i σ' e';rw[e'];exact(Option.some.inj h).symm
    ·rename_i σ' e';rw[e'];exact(Option.some.inj h).symm
    ·rename_i e';rw[e'];exact(Option.some.inj h).symm
   ·rename_i e;rw[e];exact(Option.some.inj h).symm
   ·rename_i e;rw[e];exact(Option.some.inj h).symm
   ·rename_i e;rw[e];exact(Option.some.inj h).symm
 ·have hs:cC cc bb σ=.stuck:=by unfold cC;rw[dif_neg hex]
  have no:∀n,wN cc bb n σ=none:=fun n=>by
   cases e:wN cc bb n σ with
   |none=>rfl
   |some r=>exact absurd ⟨r,n,e⟩ hex
  have sub:∀σ',(∀n,wN cc bb n σ'=none)→cC cc bb σ'=.stuck:=fun σ' h'=>by
   unfold cC
   rw[dif_neg]
   rintro⟨r,n,e⟩
   rw[h' n]at e;cases e
  rw[hs]
  have n1:=no 1
  unfold wN at n1
  split at n1
  ·rename_i e
   rw[e]
   split at n1
   ·rename_i σ' e'
    rw[e']
    refine(sub σ' fun n=>?_).symm
    have:=no (n+1)
    unfold wN at this
    rw[e]at this;simp only at this
    rw[e']at this
    exact this
   ·rename_i σ' e'
    rw[e']
    refine(sub σ' fun n=>?_).symm
    have:=no (n+1)
    unfold wN at this
    rw[e]at this;simp only at this
    rw[e']at this
    exact this
   ·cases n1
   ·cases n1
   ·cases n1
   ·cases n1
  ·cases n1
  ·cases n1
  ·cases n1
theorem vG{t:DT}(hp:PassesOwn (model X.prog X.w) X.A X.env X.xe)(hc:QT X H0 Hs0 c t)(hb:QSs X H0 Hs0 sts d1):QS X H0 Hs0 (.While c sts [] pos) (cC t d1):=PS.imp (vS hp hc hb) fun D τ H ⟨Hs,σ,S,h⟩=>by
 by_cases hex:∃r n,wN t d1 n σ=some r
 ·obtain⟨r,n,hn⟩:=hex
  rw[ig hn]at h
  refine⟨fun m τ H=>∃Hs' σ',SR X.K H0 Hs0 Hs' H σ' τ∧bc Hs Hs'∧wN t d1 m σ'=some r,⟨n,Hs,σ,S,bc.refl _,hn⟩,?_⟩
  rintro m τ1 H1 ⟨Hs1,σ1,S1,e1,w1⟩
  refine⟨Hs1,σ1,S1,?_⟩
  cases m with
  |zero=>cases w1
  |succ m=>
   unfold wN at w1
   split at w1
   ·rename_i ec
    rw[ec]
    intro Hs2 H2 g2
    refine⟨fun τ' H'=>∃Hs' σ',SR X.K H0 Hs0 Hs' H' σ' τ'∧bc Hs Hs'∧wN t d1 m σ'=some r,fun τ' H' ⟨Hs',σ',a1,a2,a3⟩=>⟨m,Nat.lt_succ_self m,Hs',σ',a1,a2,a3⟩,Hs2,σ1,S1.grow g2,?_⟩
    have e2:=e1.trans g2.s
    split at w1
    ·rename_i σ' ed
     rw[ed]
     exact fun Hs3 H3 τ3 e3 S3=>⟨Hs3,σ',S3,e2.trans e3,w1⟩
    ·rename_i σ' ed
     rw[ed]
     exact fun Hs3 H3 τ3 e3 S3=>⟨Hs3,σ',S3,e2.trans e3,w1⟩
    ·rename_i σ' ed
     rw[ed]
     cases w1
     exact fun Hs3 H3 τ3 e3 S3=>h Hs3 H3 τ3 (e2.trans e3) S3
    ·rename_i p ed
     rw[ed]
     cases w1
     exact h
    ·rename_i e ed
     rw[ed]
     cases w1
     exact h
    ·rename_i ed
     cases w1
     exact h.elim
   ·rename_i ec
    rw[ec]
    intro Hs2 H2 g2
    cases w1
    exact h Hs2 H2 τ1 (e1.trans g2.s) (S1.grow g2)
   ·rename_i ec
    rw[ec]
    cases w1
    exact h
   ·rename_i ec
    cases w1
    exact h.elim
 ·unfold cC at h
  rw[dif_neg hex]at h
  exact h.elim
end
end G
namespace G
open PySem PySem.Spec PyProof.Rows L2
def Its(lo c:Int)(n:Nat):It:=⟨fun i _=>i<n,fun i H x H'=>H'=H∧x=.int (lo+i*c),fun i _=>n≤i⟩
theorem pF{P:Program}{w:World}{K:PySem.W.Frag}{tg:Expr}(it:Addr)(lo c:Int)(n:Nat):Turn P w K tg (Its lo c n) [it] it (fun i h=>IsRangeIter h it (lo+(i:Nat)*c) ((n:Int)-(i:Nat)) c) where
 mem:=by simp
 obj:=fun i h st b hb=>by
  have e:b=it:=by simpa using hb
  subst e
  exact⟨_,st,fun v z=>by
   have z':Data.fields _=Data.cell v:=z
   cases z'⟩
 keep:=fun i h h' st k=>k it (by simp) _ st
 item:=by
  intro X hP hw hK hc i pins s σ H E I hf st hg
  subst hP hw hK
  obtain⟨f0,f1,f2,f3,f4,f5⟩:=hf it (by simp)
  have W:=Walks.range (prog:=X.prog) (w:=X.w) (I.ok.hd hc) it lo c n
  refine W.item i s _ _ hg st fun v h' tk hv st' kk=>?_
  obtain⟨t,rfl⟩:=hv
  have I1:Inv X pins σ H { s with heap:=h',toks:=tk }:=I.turned (fun b o hb e=>kk b o (by simpa using hb) e) f0 f1 f3 f4 f5
  exact⟨_,rfl,sT (s:={ s with heap:=h',toks:=tk }) (n:="range_iterator") st' rfl rfl (by decide) ⟨.int (lo+i*c),H,I1,⟨t,rfl⟩,⟨rfl,rfl⟩,st',fun b hb=>(hf b hb).1⟩⟩
 done:=by
  intro X hP hw hK hc i pins s σ H E I hf st hg
  subst hP hw hK
  obtain⟨f0,f1,f2,f3,f4,f5⟩:=hf it (by simp)
  exact wpAny_pyNext_range_end (I.ok.hd hc) st (by have:n≤i:=hg;omega) fun h' eb=>⟨rfl,I.turned (t':=s.toks) (fun b o hb e=>eb b o hb e) f0 f1 f3 f4 f5⟩
 self:=fun _ _ _ _ _ st h=>wpAny_pyIter_rangeiter st h
def eX(lo hi c:Int):Nat:=(if lo<hi then (hi-lo-1) / c+1 else 0).toNat
theorem jS{lo hi c:Int}(hc:0<c):Builtin.Range.rangeSize lo hi c=((eX lo hi c:Nat):Int):=by
 unfold Builtin.Range.rangeSize eX
 rw[if_pos hc]
 split
 ·have:=Int.ediv_nonneg (show 0≤hi-lo-1 by omega) (Int.le_of_lt hc)
  omega
 ·rfl
theorem vw{lo hi c:Int}(hc:0<c):((eX lo hi c:Nat):Int)≤(if lo<hi then hi-lo else 0):=by
 rw[←jS hc]
 unfold Builtin.Range.rangeSize
 rw[if_pos hc]
 split
 ·have h1:(hi-lo-1) / c≤hi-lo-1:=Int.ediv_le_self c (by omega)
  omega
 ·exact Int.le_refl _
theorem qT{a b c:Int}(ha:-(2 ^ 61)≤a)(ha':a<2 ^ 61)(hb:-(2 ^ 61)≤b)(hb':b<2 ^ 61)(hc:0<c)(hc':c<2 ^ 61):Builtin.Range.small a b c=true:=by
 unfold Builtin.Range.small
 rw[jS hc]
 have h:=vw (lo:=a) (hi:=b) hc
 have h0:(0:Int)≤((eX a b c:Nat):Int):=Int.natCast_nonneg _
 generalize ((eX a b c:Nat):Int)=z at h h0 ⊢
 simp only[Builtin.Range.rangeFitsLong,Bool.and_eq_true,Bool.or_eq_true,decide_eq_true_eq,beq_iff_eq,if_pos hc]
 split at h<;>omega
section
variable {X:Cx}{tg:Expr}
def D4(ta:TA):TI:=fun σ H R=>ta σ H fun vs H1=>∃i j c:Int,vs=[.int i,.int j,.int c]∧(-(2 ^ 61)≤i∧i<2 ^ 61∧-(2 ^ 61)≤j∧j<2 ^ 61∧0<c∧c<2 ^ 29)∧R (Its i c (eX i j c)) H1
theorem t8{pins:List (Addr×Obj)}{σ:L2.St}{H:Hp}{s:Shared}{R:It→Hp→Prop}{E:Value→Shared→Prop}{lo hi c:Int}{t u v:Tok}{tk:Nat}(I:Inv X pins σ H s)(h1:-(2 ^ 61)≤lo)(h2:lo<2 ^ 61)(h3:-(2 ^ 61)≤hi)(h4:hi<2 ^ 61)(h5:0<c)(h6:c<2 ^ 61)
  (q:R (Its lo c (eX lo hi c)) H):wpAny (model X.prog X.w) X.A (pyIter (.ref s.heap.objs.size)) (PIE X pins σ tg R) E { s with heap:=s.heap.push { cls:=.type "range",data:=.fields #[.int lo t,.int hi u,.int c v] },toks:=tk }:=by
 refine wpAny_pyIter_range (IsRange.new ..) (qT h1 h2 h3 h4 h5 h6) ?_
 have I1:Inv X pins σ H { s with heap:=s.heap.push { cls:=.type "range",data:=.fields #[.int lo t,.int hi u,.int c v] },toks:=tk }:=I.kept fun b o e=>Heap.get?_push_of_some _ e
 refine⟨(s.heap.push { cls:=.type "range",data:=.fields #[.int lo t,.int hi u,.int c v] }).objs.size,[(s.heap.push { cls:=.type "range",data:=.fields #[.int lo t,.int hi u,.int c v] }).objs.size],_,_,H,rfl,
  I1.kept (t':=tk) fun b o e=>Heap.get?_push_of_some _ e,pF _ lo c (eX lo hi c),?_,fun b hb=>?_,q⟩
 ·have e1:lo+((0:Nat):Int)*c=lo:=by simp
  have e2:((eX lo hi c:Nat):Int)-((0:Nat):Int)=Builtin.Range.rangeSize lo hi c:=by rw[jS h5];simp
  show IsRangeIter _ _ (lo+((0:Nat):Int)*c) (((eX lo hi c:Nat):Int)-((0:Nat):Int)) c
  rw[e1,e2]
  exact Heap.get?_push_size _ rfl
 ·have e:b=(s.heap.push { cls:=.type "range",data:=.fields #[.int lo t,.int hi u,.int c v] }).objs.size:=by simpa using hb
  subst e
  exact I1.fpOk (Nat.le_refl _) (I1.hok.fresh (Nat.le_refl _))
theorem uf {a b c:Expr} {ta:TA} {p pos:Pos} (hg:Gl X "range") (hm:X.mg "range" = none) (ha:PA X [a,b,c] ta) (hs:starEach [a,b,c] X.env=[(false,eval a X.env),(false,eval b X.env),(false,eval c X.env)])
  (hs2:starEach [b,c] X.env=[(false,eval b X.env),(false,eval c X.env)]):PI X tg (.Call (.Name "range" p) [a,b,c] [] pos) (D4 ta):=by
 intro pins s σ H R I h
 refine Call_ (jc I hg hm boot_range (PyProof.Rows.callWith_type1 (thn (ha pos pins s σ H _ I h) fun us s1 ⟨vs,H1,I1,r1,q1⟩=>?_) (by rw[hs,hs2]) (by rw[hs2];rfl)))
 obtain⟨i,j,k,e,⟨q1,q2,q3,q4,q5,q6⟩,q⟩:=q1
 subst e
 cases r1 with
 |cons r rr=>
  cases rr with
  |cons r' rr=>
   cases rr with
   |cons r'' rr=>
    cases rr
    obtain⟨t,rfl⟩:=r
    obtain⟨t',rfl⟩:=r'
    obtain⟨t'',rfl⟩:=r''
    exact call_range_3 (by omega) (t8 I1 q1 q2 q3 q4 q5 (by omega) q) (.inl (PyProof.noPylong_small (by omega)))
end
abbrev DI:=PSt→Res (List PV)
def JOk(K:PySem.W.Frag)(J:It)(Hs:Hp)(ps:List PV):Prop:=∀(i:Nat)(H Hs':Hp),bc Hs Hs'→bc Hs' H →
 (i<ps.length→J.go i H∧∀x H',J.yld i H x H'→H'=H∧∃p,ps[i]? = some p∧Rep K Hs x p)∧(ps.length≤i→J.stop i H)
section
variable (X:Cx)(H0 Hs0:Hp)
def RI(d:DI):TI:=fun τ H R=>∃Hs σ,SR X.K H0 Hs0 Hs H σ τ∧match d σ with
 |.ok ps=>∀J Hs' H',Grow Hs H Hs' H'→JOk X.K J Hs' ps→R J H'
 |.err c=>bI X H0 Hs0 c
 |.stuck=>False
def QI(tg e:Expr)(d:DI):Prop:=PI X tg e (RI X H0 Hs0 d)
abbrev DG:=PV→PSt→Res PSt
def RG(g:DG):TG:=fun v τ H Q=>∃Hs σ p,SR X.K H0 Hs0 Hs H σ τ∧Rep X.K Hs v p∧match g p σ with
 |.ok σ'=>∀Hs' H' τ',bc Hs Hs'→SR X.K H0 Hs0 Hs' H' σ' τ'→Q τ' H'
 |_=>False
def QG(e:Expr)(g:DG):Prop:=PG X e (RG X H0 Hs0 g)
end
theorem PI.imp{X:Cx}{tg e:Expr}{t t':TI}(h:PI X tg e t)(m:∀τ H Q,t' τ H Q→t τ H Q):PI X tg e t':=fun pins s σ H Q I q=>h pins s σ H Q I (m _ _ _ q)
theorem PG.imp{X:Cx}{e:Expr}{t t':TG}(h:PG X e t)(m:∀v τ H Q,t' v τ H Q→t v τ H Q):PG X e t':=fun pins s σ H v u Q I r q=>h pins s σ H v u Q I r (m _ _ _ _ q)
def xV:PV→Res (List PV)
 |.tup ps=>.ok ps
 |.lst ps=>.ok ps
 |.scr ns=>.ok (ns.map PV.int)
 |_=>.stuck
def itE(d:DE):DI:=fun σ=>(d σ).bind xV
def cD(lo c:Int)(n:Nat):List PV:=(List.range n).map fun (i:Nat)=>PV.int (lo+i*c)
def aD:List PV→Res (List PV)
 |[.int j]=>if -(2 ^ 61)≤j∧j<2 ^ 61 then .ok (cD 0 1 j.toNat) else .stuck
 |_=>.stuck
def ib:List PV→Res (List PV)
 |[.int i,.int j,.int c]=>if -(2 ^ 61)≤i∧i<2 ^ 61∧-(2 ^ 61)≤j∧j<2 ^ 61∧0<c∧c<2 ^ 29 then .ok (cD i c (eX i j c)) else .stuck
 |_=>.stuck
def itR(f:List PV→Res (List PV))(a:DA):DI:=fun σ=>(a σ).bind f
section
variable {X:Cx}{H0 Hs0:Hp}{tg a b c:Expr}{da:DE}{ra:DA}{pos p:Pos}
theorem qf{K:PySem.W.Frag}{Hs:Hp}{ad:Addr}{vs:List V}{ps:List PV}(h:SqL K Hs ad vs)(r:Reps K Hs vs ps):JOk K (Itl K ad) Hs ps:=by
 intro i H Hs' e1 e2
 have hq:SqL K H ad vs:=(e1.trans e2).seq h
 refine⟨fun hi=>?_,fun hi=>⟨vs,hq,by rw[r.length];exact hi⟩⟩
 have hp:ps[i]? = some ps[i]:=List.getElem?_eq_getElem hi
 obtain⟨v,hv,rv⟩:=r.get hp
 refine⟨⟨vs,v,hq,hv⟩,fun x H' ⟨e,y⟩=>⟨e,_,hp,?_⟩⟩
 have:=y vs hq
 rw[hv]at this
 cases this
 exact rv
theorem zE{K:PySem.W.Frag}{Hs:Hp}{ad:Addr}{vs:List V}{ps:List PV}(h:SqT K Hs ad vs)(r:Reps K Hs vs ps):JOk K (Itt K ad) Hs ps:=by
 intro i H Hs' e1 e2
 have hq:SqT K H ad vs:=bL (e1.trans e2) h
 refine⟨fun hi=>?_,fun hi=>⟨vs,hq,by rw[r.length];exact hi⟩⟩
 have hp:ps[i]? = some ps[i]:=List.getElem?_eq_getElem hi
 obtain⟨v,hv,rv⟩:=r.get hp
 refine⟨⟨vs,v,hq,hv⟩,fun x H' ⟨e,y⟩=>⟨e,_,hp,?_⟩⟩
 have:=y vs hq
 rw[hv]at this
 cases this
 exact rv
theorem uB{K:PySem.W.Frag}{Hs:Hp}{lo c:Int}{n:Nat}:JOk K (Its lo c n) Hs (cD lo c n):=by
 intro i H Hs' e1 e2
 have hl:(cD lo c n).length=n:=by simp[cD]
 rw[hl]
 refine⟨fun hi=>⟨hi,fun x H' ⟨e,y⟩=>⟨e,.int (lo+i*c),?_,?_⟩⟩,fun hi=>hi⟩
 ·simp[cD,hi]
 ·rw[y];exact .int _
theorem rF{K:PySem.W.Frag}{Hs:Hp}{lo:Int}{n:Nat}:JOk K (Itr lo n) Hs (cD lo 1 n):=by
 intro i H Hs' e1 e2
 have hl:(cD lo 1 n).length=n:=by simp[cD]
 rw[hl]
 refine⟨fun hi=>⟨hi,fun x H' ⟨e,y⟩=>⟨e,.int (lo+i),?_,?_⟩⟩,fun hi=>hi⟩
 ·simp[cD,hi]
 ·rw[y];exact .int _
theorem Bf(ha:QE X H0 Hs0 a da):QI X H0 Hs0 tg a (itE da):=by
 intro pins s τ H R I ⟨Hs,σ,S,h⟩
 unfold itE at h
 cases e:da σ with
 |ok q=>
  rw[e]at h
  cases q with
  |lst ps=>
   exact oe ha pins s τ H R I ⟨Hs,σ,S,by
    rw[e]
    intro v Hs' H' g r
    obtain⟨ad,vs,rfl,hl,rr⟩:=r.lst_inv
    exact⟨ad,rfl,⟨vs,SqL.of (g.i _ _ hl)⟩,h _ Hs' H' g (qf (SqL.of hl) rr)⟩⟩
  |scr ns=>
   exact oe ha pins s τ H R I ⟨Hs,σ,S,by
    rw[e]
    intro v Hs' H' g r
    obtain⟨ad,rfl,hl⟩:=r.scr_inv
    exact⟨ad,rfl,⟨_,g.i.seq hl⟩,h _ Hs' H' g (qf hl (Reps.ints ns))⟩⟩
  |tup ps=>
   exact Bv ha pins s τ H R I ⟨Hs,σ,S,by
    rw[e]
    intro v Hs' H' g r
    obtain⟨ad,vs,rfl,hl,rr⟩:=r.tup_inv
    exact⟨ad,rfl,⟨vs,bL g.i hl⟩,h _ Hs' H' g (zE hl rr)⟩⟩
  |_=>exact h.elim
 |err c=>
  rw[e]at h
  exact oe ha pins s τ H R I ⟨Hs,σ,S,by rw[e];exact h⟩
 |stuck=>rw[e]at h;exact h.elim
theorem ly{f:List PV→Res (List PV)}{τ:L2.St}{H:Hp}{R:It→Hp→Prop}(h:RI X H0 Hs0 (itR f ra) τ H R):
  RA X H0 Hs0 ra τ H fun vs H1=>∃Hs ps,bc Hs H1∧Reps X.K Hs vs ps∧match f ps with
   |.ok qs=>∀J Hs' H',Grow Hs H1 Hs' H'→JOk X.K J Hs' qs→R J H'
   |.err c=>bI X H0 Hs0 c
   |.stuck=>False:=by
 obtain⟨Hs,σ,S,h⟩:=h
 refine⟨Hs,σ,S,?_⟩
 unfold itR at h
 generalize ra σ=r at h ⊢
 cases r with
 |ok ps=>
  intro vs Hs' H' g r
  refine⟨Hs',ps,g.i,r,?_⟩
  have h:(match f ps with
   |.ok ps=>∀J Hs' H',Grow Hs H Hs' H'→JOk X.K J Hs' ps→R J H'
   |.err c=>bI X H0 Hs0 c
   |.stuck=>False):=h
  cases e:f ps with
  |ok qs=>rw[e]at h;exact fun J Hs2 H2 g2 j=>h J Hs2 H2 (g.trans g2) j
  |err c=>rw[e]at h;exact h
  |stuck=>rw[e]at h;exact h
 |err c=>exact h
 |stuck=>exact h
theorem uc (hg:Gl X "range") (hm:X.mg "range" = none) (ha:QA X H0 Hs0 [a] ra) (hs:starEach [a] X.env=[(false,eval a X.env)]):QI X H0 Hs0 tg (.Call (.Name "range" p) [a] [] pos) (itR aD ra):=
 PI.imp (ug hg hm ha hs) fun τ H R h=>RA.mono (ly h) fun vs H1 ⟨Hs,ps,i,r,h1⟩=>by
  unfold aD at h1
  split at h1
  ·rename_i e
   split at e
   ·rename_i j
    obtain⟨v,rfl,r1⟩:=r.one_inv
    cases r1.int_inv
    split at e
    ·rename_i hb
     cases e
     exact⟨j,rfl,by omega,by omega,h1 _ Hs H1 (.refl i) rF⟩
    ·cases e
   ·cases e
  ·rename_i e
   split at e
   ·split at e<;>cases e
   ·cases e
  ·exact h1.elim
theorem t9 (hg:Gl X "range") (hm:X.mg "range" = none) (ha:QA X H0 Hs0 [a,b,c] ra) (hs:starEach [a,b,c] X.env=[(false,eval a X.env),(false,eval b X.env),(false,eval c X.env)])
  (hs2:starEach [b,c] X.env=[(false,eval b X.env),(false,eval c X.env)]):QI X H0 Hs0 tg (.Call (.Name "range" p) [a,b,c] [] pos) (itR ib ra):=
 PI.imp (uf hg hm ha hs hs2) fun τ H R h=>RA.mono (ly h) fun vs H1 ⟨Hs,ps,i,r,h1⟩=>by
  unfold ib at h1
  split at h1
  ·rename_i e
   split at e
   ·rename_i j k m
    obtain⟨v,ws,rfl,r1,r2⟩:=r.cons_inv
    obtain⟨w,z,rfl,r3,r4⟩:=r2.two_inv
    cases r1.int_inv;cases r3.int_inv;cases r4.int_inv
    split at e
    ·rename_i hb
     cases e
     exact⟨j,k,m,rfl,hb,h1 _ Hs H1 (.refl i) uB⟩
    ·cases e
   ·cases e
  ·rename_i e
   split at e
   ·split at e<;>cases e
   ·cases e
  ·exact h1.elim
def gN(i:Nat):DG:=fun p σ=>.ok (σ.set i (some (.sh p)))
theorem yM{i:Nat}{x:Str}(hN:X.N.Nodup)(hi:X.N[i]? = some x)(hx:Loc X.env.scope x)(hf:X.fn x=true∨X.env.scope.names.lookup x=some .local):QG X H0 Hs0 (.Name x pos) (gN i):=
 PG.imp (kC hN hi hx hf) fun v τ H Q ⟨Hs,σ,p,S,r,h⟩=>h Hs H _ (bc.refl _) (S.set i r)
def fC:List Nat→List PV→PSt→Res PSt
 |[],[],σ=>.ok σ
 |i::is,p::ps,σ=>fC is ps (σ.set i (some (.sh p)))
 |_,_,_=>.stuck
def gT(is:List Nat):DG:=fun p σ=>match p with
 |.tup ps=>fC is ps σ
 |_=>.stuck
def RGs(X:Cx)(H0 Hs0:Hp)(is:List Nat):TGs:=fun vs τ H Q=>∃Hs σ ps,SR X.K H0 Hs0 Hs H σ τ∧Reps X.K Hs vs ps∧match fC is ps σ with
 |.ok σ'=>∀Hs' H' τ',bc Hs Hs'→SR X.K H0 Hs0 Hs' H' σ' τ'→Q τ' H'
 |_=>False
def QGs(X:Cx)(H0 Hs0:Hp)(es:List Expr)(is:List Nat):Prop:=PGs X es (RGs X H0 Hs0 is)
theorem PGs.imp{es:List Expr}{t t':TGs}(h:PGs X es t)(m:∀v τ H Q,t' v τ H Q→t v τ H Q):PGs X es t':=fun pins s σ H v u Q I r q=>h pins s σ H v u Q I r (m _ _ _ _ q)
theorem yL:QGs X H0 Hs0 [] []:=PGs.imp yX fun vs τ H Q ⟨Hs,σ,ps,S,r,h⟩=>by
 cases r with
 |nil=>exact⟨rfl,h Hs H τ (bc.refl _) S⟩
 |cons _ _=>exact h.elim
theorem vL{i:Nat}{is:List Nat}{x:Str}{es:List Expr}(hN:X.N.Nodup)(hi:X.N[i]? = some x)(hx:Loc X.env.scope x)(hf:X.fn x=true∨X.env.scope.names.lookup x=some .local)(h2:QGs X H0 Hs0 es is)
  (hs:(assignEach (.Name x pos::es) X.env).map (·.2)=assign (.Name x pos) X.env::(assignEach es X.env).map (·.2)):QGs X H0 Hs0 (.Name x pos::es) (i::is):=
 PGs.imp (vU (kC hN hi hx hf) h2 hs) fun vs τ H Q ⟨Hs,σ,ps,S,r,h⟩=>by
  cases r with
  |nil=>exact h.elim
  |cons r t=>exact⟨_,_,rfl,Hs,_,_,S.set i r,t,h⟩
theorem iZ:∀{is:List Nat}{ps:List PV}{σ σ':PSt},fC is ps σ=.ok σ'→ps.length=is.length
 |[],[],_,_,_=>rfl
 |_::is,_::ps,_,_,h=>congrArg (· + 1) (iZ (is:=is) (ps:=ps) h)
theorem Bh{es:List Expr}{is:List Nat}{k:Nat}(hc:X.calm=true)(h:QGs X H0 Hs0 es is)(hn:(assignEach es X.env).length=is.length)(hst:(assignEach es X.env).findIdx? (·.1)=none):QG X H0 Hs0 (.Tuple es k pos) (gT is):=
 PG.imp (Bw hc h hn hst) fun v τ H Q ⟨Hs,σ,p,S,r,h⟩=>by
  unfold gT at h
  split at h
  ·rename_i σ' e
   split at e
   ·rename_i ps
    obtain⟨ad,vs,rfl,ht,rr⟩:=r.tup_inv
    refine⟨ad,vs,rfl,bL S.g.i ht,by rw[rr.length];exact iZ e,Hs,σ,ps,S,rr,?_⟩
    rw[e];exact h
   ·cases e
  ·exact h.elim
def cO(g:DG)(b:DS):List PV→DS
 |[],σ=>.ok (.next σ)
 |p::ps,σ=>match g p σ with
  |.ok σ1=>(b σ1).bind fun f=>match f with
   |.next σ'=>cO g b ps σ'
   |.cont σ'=>cO g b ps σ'
   |.brk σ'=>.ok (.next σ')
   |.ret p=>.ok (.ret p)
  |_=>.stuck
def dZ(it:DI)(g:DG)(b:DS):DS:=fun σ=>(it σ).bind fun ps=>cO g b ps σ
theorem Bb{iter:Expr}{sts:List Stmt}{d:DI}{g:DG}{bb:DS}(hp:PassesOwn (model X.prog X.w) X.A X.env X.xe)(hc:X.calm=true)(hi:QI X H0 Hs0 tg iter d)(hg:QG X H0 Hs0 tg g)(hb:QSs X H0 Hs0 sts bb)
  (hs:∀x,foldedSetIterable iter X.env x=pure x):QS X H0 Hs0 (.For tg iter sts [] pos) (dZ d g bb):=
 PS.imp (Bs hp hc hi hg hb hs) fun D τ H ⟨Hs,σ,S,h⟩=>by
  refine⟨Hs,σ,S,?_⟩
  unfold dZ at h
  generalize d σ=r at h ⊢
  cases r with
  |err c=>exact h
  |stuck=>exact h
  |ok ps=>
   intro J Hs1 H1 g1 jok
   have h:gy X H0 Hs0 D Hs H (cO g bb ps σ):=h
   refine⟨fun i m τ H=>∃Hs' σ',SR X.K H0 Hs0 Hs' H σ' τ∧bc Hs1 Hs'∧m=ps.length-i∧i≤ps.length∧gy X H0 Hs0 D Hs' H (cO g bb (ps.drop i) σ'),⟨ps.length,Hs1,σ,S.grow g1,bc.refl _,by simp,Nat.zero_le _,by simpa using h.same g1.s⟩,?_⟩
   rintro i m τ2 H2 ⟨Hs2,σ2,S2,e2,rfl,hi,h2⟩
   obtain⟨j1,j2⟩:=jok i H2 Hs2 e2 S2.g.i
   by_cases hlt:i<ps.length
   ·obtain⟨go,yl⟩:=j1 hlt
    refine .inr ⟨go,fun τ' H'=>∃Hs' σ',SR X.K H0 Hs0 Hs' H' σ' τ'∧bc Hs1 Hs'∧gy X H0 Hs0 D Hs' H' (cO g bb (ps.drop (i+1)) σ'),fun τ' H' ⟨Hs',σ',a1,a2,a3⟩=>⟨ps.length-(i+1),by omega,Hs',σ',a1,a2,rfl,by omega,a3⟩,fun x H' y=>?_⟩
    obtain⟨rfl,p,hp',rp⟩:=yl x H' y
    rw[List.drop_eq_getElem_cons hlt]at h2
    have ep:ps[i]=p:=by rw[List.getElem?_eq_getElem hlt]at hp';exact Option.some.inj hp'
    rw[ep]at h2
    refine⟨Hs2,σ2,p,S2,rp.mono e2,?_⟩
    unfold cO at h2
    cases eg:g p σ2 with
    |ok σ3=>
     rw[eg]at h2
     dsimp only at h2
     intro Hs3 H3 τ3 e3 S3
     refine⟨Hs3,σ3,S3,?_⟩
     have h3:=gy.same (H':=H3) h2 e3
     revert h3
     generalize bb σ3=rb
     intro h3
     cases rb with
     |err c=>exact h3
     |stuck=>exact h3
     |ok f=>
      cases f with
      |next σ'=>exact fun Hs4 H4 τ4 e4 S4=>⟨Hs4,σ',S4,(e2.trans e3).trans e4,gy.same (H':=H4) h3 e4⟩
      |cont σ'=>exact fun Hs4 H4 τ4 e4 S4=>⟨Hs4,σ',S4,(e2.trans e3).trans e4,gy.same (H':=H4) h3 e4⟩
      |brk σ'=>exact h3
      |ret q=>exact h3
    |err c=>rw[eg]at h2;exact h2.elim
    |stuck=>rw[eg]at h2;exact h2.elim
   ·have e:i=ps.length:=by omega
    subst e
    refine .inl ⟨j2 (Nat.le_refl _),?_⟩
    rw[List.drop_length]at h2
    exact h2 Hs2 H2 τ2 (bc.refl _) S2
end
end G
namespace G
open PySem PySem.Spec PyProof.Rows L2
section
variable {prog:Program}{w:World}{A:Around}{E:Value→Shared→Prop}{s:Shared}
theorem nA{it l:Addr}{items:Array Value}(hne:l≠it):∀(n i:Nat)(s:Shared)(Q:List Value→Shared→Prop),s.heap.IsListIter it l i→s.heap.IsList l items→i+n≤items.size →
  (∀h',h'.IsListIter it l (i+n)→Heap.SameBut it s.heap h'→Q ((items.toList.drop i).take n) { s with heap:=h' })→wpAny (model prog w) A (draw (.ref it) n) Q E s
 |0,i,s,Q,hit,_,_,hQ=>by
  show wpAny _ _ (pure []) Q E s
  exact wpAny_pure (by simpa using hQ s.heap hit (Heap.SameBut.refl ..))
 |n+1,i,s,Q,hit,ht,hle,hQ=>by
  have hlt:i<items.size:=by omega
  show wpAny _ _ (pyNext (.ref it) >>= _) Q E s
  refine wpAny_bind (wpAny_pyNext_list_item hit ht (x:=items[i]) (by simp[hlt]) fun h₁ hit₁ hs₁=>?_)
  refine wpAny_bind (wpAny_holding (nA hne n (i+1) _ _ hit₁ (ht.extBut hs₁.extBut hne) (by omega) fun h₂ hit₂ hs₂=>wpAny_pure ?_))
  have hd:items.toList.drop i=items[i]::items.toList.drop (i+1):=by simp[List.drop_eq_getElem_cons,hlt]
  have:=hQ h₂ (by rw[show i+(n+1)=i+1+n by omega];exact hit₂) (hs₁.trans hs₂)
  rw[hd,List.take_succ_cons]at this
  exact this
theorem jN{l:Addr}{items:Array Value}{Q:List Value→Shared→Prop}(hh:A.handled=none)(ht:s.heap.IsList l items)
  (hQ:∀h',Heap.ExtBut s.heap.objs.size s.heap h'→Q items.toList { s with heap:=h' }):wpAny (model prog w) A (unpackItems (.ref l) items.size none) Q E s:=by
 have hlt:l≠s.heap.objs.size:=by obtain⟨o,ho,_⟩:=ht;exact Nat.ne_of_lt (Heap.lt_size ho)
 unfold unpackItems
 refine wpAny_bind ?_
 ·unfold notIterableAtAll
  refine wpAny_bind (wpAny_specialOf ht.typeIs slot_list_iter.lookup ?_)
  refine wpAny_pure ?_
  simp only[Bool.false_eq_true,if_false]
  refine wpAny_bind (wpAny_holding (wpAny_pyIter_list ht ?_))
  have ht0:(s.heap.push { cls:=.type "list_iterator",data:=.fields #[.ref l,.int 0 0] }).IsList l items:=by
   obtain⟨o,ho,r⟩:=ht
   exact⟨o,Heap.get?_push_of_some _ ho,r⟩
  refine wpAny_bind (wpAny_holding (nA hlt items.size 0 _ _ ⟨_,Heap.get?_push_size _ rfl,rfl,rfl⟩ ht0 (by omega) fun h₁ hit₁ hs₁=>?_))
  have hall:List.take items.size (List.drop 0 items.toList)=items.toList:=by
   rw[List.drop_zero];exact List.take_of_length_le (by simp)
  rw[hall]
  rw[if_neg (by simp)]
  have ht₁:h₁.IsList l items:=ht0.extBut hs₁.extBut hlt
  refine wpAny_bind (wpAny_holding (wpAny_pyNext_list_end hh hit₁ ht₁ (by simp) fun h₂ he₂=>?_))
  simp only[Option.isSome_none,Bool.false_eq_true,if_false]
  refine wpAny_pure (hQ h₂ fun b o hb e=>he₂ b o hb (hs₁.extBut b o hb (Heap.get?_push_of_some _ e)))
theorem jJ{env:Env}{elts:List Expr}{x1}{pos:Pos}{t:Addr}{items:Array Value}{Q:Unit→Shared→Prop}(hh:A.handled=none)(ht:s.heap.IsList t items)
  (hn:(assignEach elts env).length=items.size) (hstar:(assignEach elts env).findIdx? (·.1)=none)
  (h:∀h',Heap.ExtBut s.heap.objs.size s.heap h'→wpAny (model prog w) A (assignInOrder ((assignEach elts env).map (·.2)) items.toList) Q E { s with heap:=h' }):
  wpAny (model prog w) A (assign (.Tuple elts x1 pos) env (.ref t)) Q E s:=by
 rw[assign_Tuple]
 refine wpAny_bind (wpAny_standAt ?_)
 unfold unpack
 rw[hn,hstar]
 exact wpAny_bind (wpAny_holding (jN hh ht h))
end
section
variable {X:Cx}{H0 Hs0:Hp}{a b c:Expr}{da db dc:DE}{pos:Pos}
def FL(K:PySem.W.Frag)(n:Nat)(t:TGs):TG:=fun v σ H Q=>∃a xs,v=.ref a∧SqL K H a xs∧xs.length=n∧t xs σ H Q
theorem Bx{es:List Expr}{k:Nat}{t:TGs}{n:Nat}(hc:X.calm=true)(h:PGs X es t)(hn:(assignEach es X.env).length=n)(hst:(assignEach es X.env).findIdx? (·.1)=none):PG X (.Tuple es k pos) (FL X.K n t):=by
 intro pins s σ H v u Q I r hw
 obtain⟨a,xs,e1,hq,hl,hw⟩:=hw
 subst e1
 cases r
 obtain⟨its,rv,ht,hz⟩:=I.list hq
 refine jJ (I.ok.hd hc) ht.isList (by simp[hn,←hl,rv.length]) hst fun h' hx=>?_
 have I1:Inv X pins σ H { s with heap:=h' }:=I.kept (t':=s.toks) fun b o e=>hx b o (Nat.ne_of_lt (Heap.lt_size e)) e
 exact h pins _ σ H xs _ Q I1 (by simpa using rv) hw
def gU(is:List Nat):DG:=fun p σ=>match p with
 |.tup ps=>fC is ps σ
 |.lst ps=>fC is ps σ
 |_=>.stuck
theorem Bg{es:List Expr}{is:List Nat}{k:Nat}(hc:X.calm=true)(h:QGs X H0 Hs0 es is)(hn:(assignEach es X.env).length=is.length)(hst:(assignEach es X.env).findIdx? (·.1)=none):QG X H0 Hs0 (.Tuple es k pos) (gU is):=by
 intro pins s τ H v u Q I rv ⟨Hs,σ,p,S,r,hh⟩
 cases p with
 |tup ps=>exact Bh hc h hn hst pins s τ H v u Q I rv ⟨Hs,σ,.tup ps,S,r,hh⟩
 |lst ps=>
  refine Bx hc h hn hst pins s τ H v u Q I rv ?_
  obtain⟨ad,vs,rfl,ht,rr⟩:=r.lst_inv
  have hh':(match fC is ps σ with
   |.ok σ'=>∀Hs' H' τ',bc Hs Hs'→SR X.K H0 Hs0 Hs' H' σ' τ'→Q τ' H'
   |_=>False):=hh
  cases e:fC is ps σ with
  |ok σ'=>exact⟨ad,vs,rfl,SqL.of (S.g.i _ _ ht),by rw[rr.length];exact iZ e,Hs,σ,ps,S,rr,hh'⟩
  |err c=>rw[e]at hh';exact hh'.elim
  |stuck=>rw[e]at hh';exact hh'.elim
 |_=>exact hh.elim
theorem gy.bindA{D:Ends}{Hs H:Hp}{r:Res (List PV)}{f:List PV→Res Fl}(h:gy X H0 Hs0 D Hs H (r.bind f)):
  ph X.K Hs H r (bI X H0 Hs0) fun v H1=>∃Hs1 p,Grow Hs H Hs1 H1∧Reps X.K Hs1 v p∧gy X H0 Hs0 D Hs1 H1 (f p):=by
 cases r with
 |ok p=>exact fun v Hs' H' g r=>⟨Hs',p,g,r,gy.same (r:=f p) h g.s⟩
 |err c=>exact h
 |stuck=>exact h
theorem SR.setOwn{K:PySem.W.Frag}{Hs H:Hp}{σ:PSt}{τ:L2.St}{p:Addr}{vs:List V}{xs:List PV}(S:SR K H0 Hs0 Hs H σ τ)(i:Nat)(hp:H p=none)(r:Reps K Hs vs xs):
  SR K H0 Hs0 Hs (upd H p (.lst vs)) (σ.set i (some (.own xs))) (τ.set i (some (.ref p))):=by
 have g:Grow Hs H Hs (upd H p (.lst vs)):=.newOwn S.g.i hp
 have far:∀(j:Nat)(ys:List PV)(ad:Addr),σ[j]? = some (some (.own ys))→τ[j]? = some (some (.ref ad))→ad≠p:=fun j ys ad e1 e2 z=>by
  obtain⟨v,e3,a',vs',rfl,h1,_⟩:=S.slot j _ e1
  rw[e2]at e3
  cases e3
  subst z
  rw[hp]at h1;cases h1
 refine⟨S.g.trans g,fun j sv e=>?_,fun j k xs' ys' ad hjk e1 e2 e3=>?_,by rw[List.length_set,List.length_set];exact S.len⟩
 ·rcases bh e with ⟨rfl,e',hl⟩|⟨hne,e'⟩
  ·cases e'
   refine⟨.ref p,by rw[List.getElem?_set_self (by rw[←S.len];exact hl)],p,vs,rfl,aC,S.g.i.free hp,S.g.h.free hp,r⟩
  ·obtain⟨w,e1,r1⟩:=S.slot j sv e'
   exact⟨w,by rw[List.getElem?_set_ne (fun z=>hne z.symm)];exact e1,r1.grow g⟩
 ·rcases bh e1 with ⟨rfl,e',hl⟩|⟨hj,e1'⟩
  ·rw[List.getElem?_set_self (by rw[←S.len];exact hl)]at e3
   cases e3
   rcases bh e2 with ⟨rfl,_,_⟩|⟨hk,e2'⟩
   ·exact absurd rfl hjk
   ·rw[List.getElem?_set_ne (fun z=>hk z.symm)]
    exact fun z=>far k _ _ e2' z rfl
  ·rw[List.getElem?_set_ne (fun z=>hj z.symm)]at e3
   rcases bh e2 with ⟨rfl,e',hl⟩|⟨hk,e2'⟩
   ·rw[List.getElem?_set_self (by rw[←S.len];exact hl)]
    intro z
    cases z
    exact far j _ _ e1' e3 rfl
   ·rw[List.getElem?_set_ne (fun z=>hk z.symm)]
    exact S.inj j k _ _ ad hjk e1' e2' e3
def lq(i:Nat)(a:DA):DS:=fun σ=>(a σ).bind fun ps=>if ps.length≤10000000 then .ok (.next (σ.set i (some (.own ps)))) else .stuck
theorem A9{i:Nat}{x:Str}{es:List Expr}{lp pos':Pos}{ra:DA}(hN:X.N.Nodup)(hi:X.N[i]? = some x)(hx:Loc X.env.scope x)(ha:QA X H0 Hs0 es ra)(hs:swapsWith (.List es lp) (some (.Name x pos')) pos.line X.env=pure false)
  (hf:X.fn x=true∨X.env.scope.names.lookup x=some .local):QS X H0 Hs0 (.Assign [.Name x pos'] (.List es lp) pos) (lq i ra):=PS.imp (ri hN hi hx (vX ha) hs hf) fun D τ H ⟨Hs,σ,S,h⟩=>
 ⟨Hs,σ,S,ph.mono (gy.bindA h) fun vs H1 ⟨Hs1,ps,g1,r1,h1⟩=>by
  split at h1
  ·rename_i hl
   exact⟨qU (by rw[r1.length];exact hl),fun p hp=>h1 Hs1 _ _ (bc.refl _) ((S.grow g1).setOwn i hp r1)⟩
  ·exact h1.elim⟩
theorem SR.write{K:PySem.W.Frag}{Hs H:Hp}{σ:PSt}{τ:L2.St}{ad:Addr}{vs':List V}{xs xs':List PV}(S:SR K H0 Hs0 Hs H σ τ)(i:Nat)(e:σ[i]? = some (some (.own xs)))(et:τ[i]? = some (some (.ref ad)))(hHs:Hs ad=none)(hH0:H0 ad=none)(r:Reps K Hs vs' xs'):
  SR K H0 Hs0 Hs (upd H ad (.lst vs')) (σ.set i (some (.own xs'))) τ:=by
 have sm:∀{b:Addr},b≠ad→upd H ad (.lst vs') b=H b:=fun h=>aR h
 refine⟨⟨S.g.s,fun b o h=>?_,fun b o h=>?_,S.g.o⟩,fun j sv ej=>?_,fun j k xs1 ys1 a1 hjk e1 e2 e3=>?_,by rw[List.length_set];exact S.len⟩
 ·rw[sm (bD h hHs)];exact S.g.i b o h
 ·rw[sm (bD h hH0)];exact S.g.h b o h
 ·rcases bh ej with ⟨rfl,e',hl⟩|⟨hne,e'⟩
  ·cases e'
   exact⟨_,et,ad,vs',rfl,aC,hHs,hH0,r⟩
  ·obtain⟨w,e1,r1⟩:=S.slot j sv e'
   refine⟨w,e1,?_⟩
   cases sv with
   |sh p=>exact r1
   |own ys=>
    obtain⟨b,ws,rfl,h1,h2,h3,h4⟩:=r1
    refine⟨b,ws,rfl,?_,h2,h3,h4⟩
    rw[sm]
    ·exact h1
    ·intro z
     subst z
     exact S.inj j i ys xs b hne e' e e1 et
 ·have o1:∃z,σ[j]? = some (some (.own z)):=by
   rcases bh e1 with ⟨rfl,_,_⟩|⟨_,e'⟩
   ·exact⟨xs,e⟩
   ·exact⟨_,e'⟩
  have o2:∃z,σ[k]? = some (some (.own z)):=by
   rcases bh e2 with ⟨rfl,_,_⟩|⟨_,e'⟩
   ·exact⟨xs,e⟩
   ·exact⟨_,e'⟩
  obtain⟨z1,o1⟩:=o1
  obtain⟨z2,o2⟩:=o2
  exact S.inj j k z1 z2 a1 hjk o1 o2 e3
def lu(i:Nat)(d:DE):DS:=fun σ=>match σ[i]? with
 |some (some (.own xs))=>if xs.length<10000000 then (d σ).bind fun p=>.ok (.next (σ.set i (some (.own (xs++[p]))))) else .stuck
 |_=>.stuck
theorem Be {i:Nat} {x:Str} {np apos cpos:Pos} (hN:X.N[i]? = some x) (hv:Vis X.env.scope x) (hd:(x==("__debug__":Str))=false) (hcd:(x==("__classdict__":Str))=false) (ha:QE X H0 Hs0 a da)
  (hbase:attributeBase (.Name x np) "append" X.env (eval (.Name x np) X.env)=eval (.Name x np) X.env)
  (hfew:((backTo cpos (starEach [a] X.env)).all (fun x=>!x.1)&&(backToKw cpos (keywordEach [] X.env)).all (fun x=>x.1.isSome)
   && decide ([a].length+([]:List Keyword).length+(if ([]:List Keyword).isEmpty then 0 else 1)<30))=true)
  (hline:(apos.endLine==cpos.line)=true) (hs:starEach [a] X.env=[(false,eval a X.env)]) (hplain:(backTo cpos (starEach [] X.env)).any (·.1)=false)
  (hsw:swapsWith (.Call (.Attribute (.Name x np) "append" apos) [a] [] cpos) none pos.line X.env=pure false):
  QS X H0 Hs0 (.Expr (.Call (.Attribute (.Name x np) "append" apos) [a] [] cpos) pos) (lu i da):=by
 intro pins s τ H D I ⟨Hs,σ,S,h⟩
 refine n9 (vZ PySem.F.plainAttrs_list PySem.F.slot_list_append PySem.F.type_list_append j3 (i7 hN hv hd hcd) (cJ ha fD hs) hbase hfew hline hs hplain) hsw pins s τ H D I ?_
 unfold lu at h
 split at h
 ·rename_i xs e
  split at h
  ·rename_i hl
   obtain⟨v,e1,ad,vs,rfl,h1,h2,h3,h4⟩:=S.slot i _ e
   refine⟨_,e1,.inl ⟨rfl,vs,SqL.of h1⟩,Hs,σ,S,Ret.mono (gy.bind1 h) fun y H1 ⟨Hs1,p,g1,r1,hh⟩=>?_⟩
   have S1:=S.grow g1
   obtain⟨v',e1',ad',vs',e2',h1',h2',h3',h4'⟩:=S1.slot i _ e
   rw[e1]at e1'
   cases e1'
   cases e2'
   refine⟨ad,vs',y,rfl,rfl,h1',by rw[h4'.length,sizeLine_eq];omega,hh Hs1 _ τ (bc.refl _) (S1.write i e e1 h2' h3' (h4'.append (.cons r1 .nil)))⟩
  ·exact h.elim
 ·exact h.elim
def t6(i:Nat):DS:=fun σ=>match σ[i]? with
 |some (some (.own xs))=>if xs=[] then .stuck else .ok (.next (σ.set i (some (.own xs.dropLast))))
 |_=>.stuck
theorem Reps.dropLast{K:PySem.W.Frag}{H:Hp}{vs:List V}{ps:List PV}(r:Reps K H vs ps):Reps K H vs.dropLast ps.dropLast:=by
 rw[List.dropLast_eq_take,List.dropLast_eq_take,r.length]
 exact r.take _
end
end G
namespace G
open PySem PySem.Spec PyProof.Rows L2
section
variable {X:Cx}{H0 Hs0:Hp}{pos:Pos}
end
def gC(m:Nat)(ps:List PV):PSt:=ps.map (fun p=>some (.sh p))++List.replicate (m-ps.length) none
def fin:Res Fl→Res PV
 |.ok (.ret p)=>.ok p
 |.ok (.next _)=>.ok .non
 |_=>.stuck
def bH(n m:Nat)(d:DS)(ps:List PV):Res PV:=if ps.length=n then fin (d (gC m ps)) else .stuck
theorem ik{n m:Nat}{d:DS}{ps:List PV}(h:ps.length=n):bH n m d ps=fin (d (gC m ps)):=if_pos h
theorem yw{n m:Nat}{d:DS}{ps:List PV}(h:ps.length≠n):bH n m d ps=.stuck:=if_neg h
theorem SR.start{K:PySem.W.Frag}{Hs H:Hp}{vs:List V}{ps:List PV}{N:List Str}(i:bc Hs H)(r:Reps K Hs vs ps)(hl:vs.length≤N.length):SR K H Hs Hs H (gC N.length ps) (start N vs):=by
 have hlen:=r.length
 have get:∀(j:Nat)(sv:SV),(gC N.length ps)[j]? = some (some sv)→∃p,sv=.sh p∧ps[j]? = some p:=by
  intro j sv e
  unfold gC at e
  by_cases hj:j<ps.length
  ·rw[List.getElem?_append_left (by simpa using hj),List.getElem?_map]at e
   cases q:ps[j]? with
   |none=>rw[q]at e;cases e
   |some p=>rw[q]at e;cases e;exact⟨p,rfl,rfl⟩
  ·rw[List.getElem?_append_right (by simpa using hj),List.getElem?_replicate]at e
   split at e<;>cases e
 refine⟨.refl i,fun j sv e=>?_,fun j k xs ys a _ e1=>?_,?_⟩
 ·obtain⟨p,rfl,hp⟩:=get j sv e
  obtain⟨v,hv,rv⟩:=r.get hp
  refine⟨v,?_,rv⟩
  have hj:j<vs.length:=(List.getElem?_eq_some_iff.mp hv).1
  unfold L2.start
  rw[List.getElem?_append_left (by simpa using hj),List.getElem?_map,hv];rfl
 ·obtain⟨p,z,_⟩:=get j _ e1
  cases z
 ·unfold gC L2.start
  simp only[List.length_append,List.length_map,List.length_replicate]
  omega
section
variable {P:Program}{w:World}{K:PySem.W.Frag}{mg:Str→Option Value}{base:Heap}
theorem zS{CX:CXT}{x qual:Str}{st:Stmt}{f:Addr}{fd:FuncData}{N ps:List Str}{k:Nat}{sp:Sp}(F:Fun K x qual st f fd)(S:FnScope N ps (ak st))(len:∀vs H Q E,sp vs H Q E→vs.length=ps.length)
  (hbody:∀(cdv:Value)(A:Around)(outer:List Env)(s:Shared)(H:Hp)(vs:List V)(Q:VK)(E:XK),Room k (A.deeper (envOfC qual (ak st) s.heap.objs.size f cdv))→sp vs H Q E →
   ∃t,PSs (mQ CX P w K mg base N qual (ak st) f cdv A outer s H E) (cK st) t∧t { nx:=fun _ H'=>Q .non H',rt:=Q } (start N vs) H):FnOk P w K mg base CX (k+1) f fd ps sp:=by
 obtain⟨oc,od,kV,doc,pm,an,cdv,ct,osl,rfl,lk,hcd⟩:=F.ex
 exact Ea lk hcd S len fun A outer s H vs Q E hr hsp=>hbody cdv A outer s H vs Q E hr hsp
theorem Av{x qual:Str}{st:Stmt}{f:Addr}{fd:FuncData}{N ps:List Str}{k:Nat}{d:DS}(F:Fun K x qual st f fd)(S:FnScope N ps (ak st))
  (hbody:∀(cdv:Value)(A:Around)(outer:List Env)(s:Shared)(H Hs:Hp)(E:XK),Room k (A.deeper (envOfC qual (ak st) s.heap.objs.size f cdv)) →
   QSs (mQ (CXG P w) P w K mg base N qual (ak st) f cdv A outer s H E).nox H Hs (cK st) d):
  FnOk P w K mg base (CXG P w) (k+1) f fd ps (Fsp K ps.length (bH ps.length N.length d)):=by
 have hpl:ps.length≤N.length:=by have:=congrArg List.length S.pre;rw[List.length_take]at this;omega
 refine zS F S (fun vs H Q E h=>h.1) (fun cdv A outer s H vs Q E hr h=>?_)
 obtain⟨hl,Hs,qs,i,r,h⟩:=h
 refine⟨_,PSs.nox (hbody cdv A outer s H Hs E hr),Hs,gC N.length qs,SR.start i r (by omega),?_⟩
 rw[ik (by rw[←r.length,hl])]at h
 generalize d (gC N.length qs)=rr at h ⊢
 cases rr with
 |ok fl=>
  cases fl with
  |next σ'=>exact fun Hs' H' τ' _ S'=>h _ Hs' H' S'.g .non
  |ret p=>exact fun v Hs' H' g rv=>h v Hs' H' g rv
  |brk σ'=>exact h.elim
  |cont σ'=>exact h.elim
 |err c=>exact h.elim
 |stuck=>exact h
structure FunIn (P:Program) (w:World) (K:PySem.W.Frag) (mg:Str→Option Value) (base:Heap) (x:Str) (k:Nat) (m:List PV→Res PV):Prop where
 ex:∃(a:Addr)(fd:FuncData)(ps:List Str),mg x=some (.ref a)∧PySem.W.keepIn K (.ref a)=true∧Binds K fd ps []∧(∀qs,qs.length≠ps.length→m qs=.stuck)∧FnOk P w K mg base (CXG P w) k a fd ps (Fsp K ps.length m)
theorem Ct{x:Str}{st:Stmt}{f:Addr}{fd:FuncData}{N ps:List Str}{k:Nat}{d:DS}(F:Fun K x x st f fd)(hm:mg x=some (.ref f))(S:FnScope N ps (ak st))
  (hb:∀(kV doc pm:Value)(an:Option Addr)(cdv ct:Value)(us:List Value),us.length=ps.length→bindArgs (PySem.W.fnOf x x (fu st) (cK st) (ak st) .none kV doc pm an cdv ct) ⟨us,[]⟩=pure (ps.zip us))
  (hbody:∀(cdv:Value)(A:Around)(outer:List Env)(s:Shared)(H Hs:Hp)(E:XK),Room k (A.deeper (envOfC x (ak st) s.heap.objs.size f cdv)) →
   QSs (mQ (CXG P w) P w K mg base N x (ak st) f cdv A outer s H E).nox H Hs (cK st) d):
  FunIn P w K mg base x (k+1) (bH ps.length N.length d):=
 ⟨f,fd,ps,hm,F.kp,F.binds hb,fun qs h=>yw h,Av F S hbody⟩
theorem FunIn.is{x:Str}{j:Nat}{m:List PV→Res PV}{X:Cx}{k:Nat}(F:FunIn X.prog X.w X.K X.mg X.base x j m)(hr:Room k X.A)(h:j≤k:=by decide):FunIs X x m:=by
 obtain⟨a,fd,ps,h1,h2,h3,h4,h5⟩:=F.ex
 exact⟨a,fd,ps,j,h1,h2,h3,hr.mono h,h4,h5⟩
structure DefAt (K:PySem.W.Frag) (x:Str) (st:Stmt):Prop where
 ex:∃(f:Addr)(fd:FuncData),PySem.W.nsIn K mainGlobals x=some (some (.ref f))∧Fun K x x st f fd
theorem aL{x:Str}{st:Stmt}{f:Addr}{oc:Value}{od an:Option Addr}{osl:Array (Option Value)}{kV doc pm cdv ct:Value}(a:PySem.W.nsIn K mainGlobals x=some (some (.ref f)))
  (l:K.lookup f=some ⟨oc,od,.func (PySem.W.fnOf x x (fu st) (cK st) (ak st) .none kV doc pm an cdv ct),osl⟩) (c:PySem.W.codeIn K cdv x=true) (k:PySem.W.keepIn K (.ref f)=true):DefAt K x st:=
 ⟨f,_,a,Cr l c k⟩
theorem wG{l:PySem.W.OpenLaw}{q:Program}{loose:List Str}{XP:(Str→Option Value)→Heap→Prop}{YP:World→Heap→Prop}{d:DefRec}{K:Params→PySem.W.Frag}{k:Nat}{m:List PV→Res PV}(hn:l.most=some 63)(hdf:d.params.defaults=[])
  (hr:Room k callerA) (hY:∀(w:World) (h:Heap),YP w h→(K w.params).In h) (hd:d.name = "law")
  (F:∀(w:World)(mg:Str→Option Value)(h:Heap),(K w.params).In h→h.Ns mainGlobals mg →
   ∃(a:Addr) (fd:FuncData),mg "law" = some (.ref a)∧(∀(s:Shared) (u:Value),BindsTo s fd ⟨[u],[]⟩ [("script",u)])∧∀base:Heap,(K w.params).In base→base.Ns mainGlobals mg→FnOk l.prog w (K w.params) mg base (CXG l.prog w) k a fd ["script"] (Fsp (K w.params) 1 m))
  (hm:∀ns:List Int,ns.length≤63→m [.scr ns]=.ok (.bl true)):
  PySem.W.WalkO q loose XP YP l.row.toRowW d [] (fun f vs=>PySem.call f vs):=by
 refine L2.yk (n:=63) (k:=k) (x:="script") (CX:=fun w=>CXG l.prog w) (sp:=fun w=>Fsp (K w.params) 1 m) hn (by decide) hdf hr hY (fun w mg fa h KX G hmg=>?_) (fun w H a ns hl _ hS=>?_) fun _ _ _ _ _ ⟨_,_,_,_,_,_,_,_,_,_,_,z⟩=>z
 ·obtain⟨a,fd,h1,h2,h3⟩:=F w mg h KX G
  rw[hd,h1]at hmg
  cases hmg
  exact⟨fd,h2,h3⟩
 ·refine⟨rfl,H,[.scr ns],bc.refl _,.cons (.scr hS) .nil,?_⟩
  rw[hm ns hl]
  exact fun v Hs' H' g r=>r.bl_inv
end
end G
namespace G
open PySem PySem.Spec PyProof.Rows L2
def noStar:Expr→Bool
 |.Starred _ _=>false
 |_=>true
def j0:Expr→Bool
 |.ListComp ..=>false
 |.SetComp ..=>false
 |.DictComp ..=>false
 |_=>true
def gq:Expr→Bool
 |.Set ..=>false
 |_=>true
def oA:Expr→Bool
 |.Slice ..=>false
 |_=>true
def se:Expr→Bool
 |.UnaryOp ..=>false
 |.BoolOp ..=>false
 |.IfExp ..=>false
 |.Compare ..=>false
 |_=>true
theorem aB{a:Expr}{es:List Expr}{env:Env}(h:noStar a=true):starEach (a::es) env=(false,eval a env)::starEach es env:=by
 cases a<;>first|rfl|cases h
theorem la{es:List Expr}{env:Env}{pos:Pos}(h:es.all noStar=true):(backTo pos (starEach es env)).any (·.1)=false:=by
 induction es with
 |nil=>rfl
 |cons a es ih=>
  rw[List.all_cons,Bool.and_eq_true]at h
  rw[aB h.1]
  show((false||(backTo pos (starEach es env)).any (·.1))=false)
  rw[ih h.2];rfl
theorem ic{a:Expr}{t:Option Expr}{n:Nat}{env:Env}(h:j0 a=true):swapsWith a t n env=pure false:=by
 cases a<;>first|rfl|cases h
theorem ir{a:Expr}{env:Env}(h:gq a=true):∀x,foldedSetIterable a env x=pure x:=by
 intro x
 cases a<;>first|rfl|cases h
theorem pY{b:Expr}(h:oA b=true):kW b:=by
 intro o i
 cases b<;>first|rfl|cases h
theorem vc{a:Expr}{env:Env}(h:se a=true):∀whole,isTrue a env whole=(do let v ←whole;standAt a.pos;holding [v] (truthy v)):=by
 intro whole
 cases a<;>first | (cases h;done) | (unfold isTrue;rfl)|rfl
theorem lI{op:CmpOp}{b:Expr}(h:gq b=true):behindInMarks op b=false:=by
 cases b<;>first|rfl|cases h
end G
namespace G
open PySem PySem.Spec PyProof.Rows L2
section
variable (X:Cx)(H0 Hs0:Hp)
structure XE (e:Expr) (d:DE):Prop where h:QE X H0 Hs0 e d
structure XA (e:List Expr) (d:DA):Prop where h:QA X H0 Hs0 e d
structure XT (e:Expr) (d:DT):Prop where h:QT X H0 Hs0 e d
structure XW (e:Expr) (d:DT):Prop where h:QW X H0 Hs0 e d
structure XS (e:Stmt) (d:DS):Prop where h:QS X H0 Hs0 e d
structure XB (e:List Stmt) (d:DS):Prop where h:QSs X H0 Hs0 e d
structure XI (tg e:Expr) (d:DI):Prop where h:QI X H0 Hs0 tg e d
structure XG (e:Expr) (d:DG):Prop where h:QG X H0 Hs0 e d
structure XGs (e:List Expr) (d:List Nat):Prop where h:QGs X H0 Hs0 e d
structure XO (e:Option Expr) (d:DO):Prop where h:QO X H0 Hs0 e d
end
theorem aK{A:Around}{k:Nat}(hr:Room k A):A.units+20<cLine:=by have:=hr.un;omega
theorem xJ:bootBuiltins "abs" = some (.builtin "abs"):=by decide +kernel
theorem jf:bootBuiltins "max" = some (.builtin "max"):=by decide +kernel
theorem l8:bootBuiltins "min" = some (.builtin "min"):=by decide +kernel
theorem j9:bootBuiltins "int" = some (.type "int"):=by decide +kernel
theorem Ac:bootBuiltins "bool" = some (.type "bool"):=by decide +kernel
theorem tw:bootBuiltins "list" = some (.type "list"):=by decide +kernel
theorem B8:"int"∈c5:=by decide
theorem zC:"bool"∈c5:=by decide
structure Bi (mg:Str→Option Value):Prop where
 abs:mg "abs" = none
 len:mg "len" = none
 range:mg "range" = none
 max:mg "max" = none
 min:mg "min" = none
 isinstance:mg "isinstance" = none
 int:mg "int" = none
 bool:mg "bool" = none
 tuple:mg "tuple" = none
 list:mg "list" = none
 str:mg "str" = none
 dict:mg "dict" = none
 sorted:mg "sorted" = none
 set:mg "set" = none
 reversed:mg "reversed" = none
 zip:mg "zip" = none
 enumerate:mg "enumerate" = none
 all:mg "all" = none
 any:mg "any" = none
section
variable {X:Cx}{H0 Hs0:Hp}{a b c:Expr}{da db dc:DE}{pos:Pos}{ta tb:DT}{es rest:List Expr}{ra:DA}{st:Stmt}{sts ss2:List Stmt}{d1 d2:DS}
theorem xv (i:Nat) {x:Str} (hN:X.N[i]? = some x:=by rfl) (hv:Vis X.env.scope x:=by first|exact Or.inl rfl|exact Or.inr (Or.inl rfl)|exact Or.inr (Or.inr rfl)) (hd:(x==("__debug__":Str))=false:=by decide)
  (hcd:(x==("__classdict__":Str))=false:=by decide):XE X H0 Hs0 (.Name x pos) (ae i):=⟨vO hN hv hd hcd⟩
theorem af{i j}:XE X H0 Hs0 (.Constant (.int i) j pos) (eC (.int i)):=⟨Dv⟩
theorem xbl{b j}:XE X H0 Hs0 (.Constant (.bool b) j pos) (eC (.bl b)):=⟨Fi⟩
theorem AD{j}:XE X H0 Hs0 (.Constant .none j pos) (eC .non):=⟨Dn⟩
theorem xop{op:Operator}{g:PV→PV→Res PV}(ho:OpP X (binaryOp op) g)(ha:XE X H0 Hs0 a da)(hb:XE X H0 Hs0 b db):XE X H0 Hs0 (.BinOp a op b pos) (e2 g da db):=⟨Fh ho ha.h hb.h⟩
theorem qM(ha:XE X H0 Hs0 a da):XE X H0 Hs0 (.UnaryOp .USub a pos) (e1 jV da):=⟨Dp ha.h⟩
theorem EK(ha:XE X H0 Hs0 a da):XE X H0 Hs0 (.UnaryOp .Not a pos) (e1 zd da):=⟨Dm ha.h⟩
theorem jj{op:CmpOp}{g:PV→PV→Res PV}(ho:OpP X (compareOp op) g)(ha:XE X H0 Hs0 a da)(hb:XE X H0 Hs0 b db)(hm:gq b=true:=by rfl):XE X H0 Hs0 (.Compare a [op] [b] pos) (e2 g da db):=⟨Dx ho ha.h hb.h (lI hm)⟩
theorem u4{op:BoolOp}(ha:XE X H0 Hs0 a da):XE X H0 Hs0 (.BoolOp op [a] pos) da:=⟨Dl ha.h⟩
theorem AG(ha:XE X H0 Hs0 a da)(hb:XE X H0 Hs0 (.BoolOp .And (b::rest) pos) db):XE X H0 Hs0 (.BoolOp .And (a::b::rest) pos) (rR da db):=⟨Dy ha.h hb.h⟩
theorem CV(ha:XE X H0 Hs0 a da)(hb:XE X H0 Hs0 (.BoolOp .Or (b::rest) pos) db):XE X H0 Hs0 (.BoolOp .Or (a::b::rest) pos) (eOr da db):=⟨Fg ha.h hb.h⟩
theorem xa0:XA X H0 Hs0 [] aj:=⟨vN⟩
theorem xa(ha:XE X H0 Hs0 a da)(hr:XA X H0 Hs0 es ra)(hs:noStar a=true:=by rfl):XA X H0 Hs0 (a::es) (aa da ra):=⟨su ha.h hr.h (aB hs)⟩
theorem fA{x1}(h:XA X H0 Hs0 es ra):XE X H0 Hs0 (.Tuple es x1 pos) (eA cN ra):=⟨Dj h.h⟩
theorem tI(h:XA X H0 Hs0 es ra):XE X H0 Hs0 (.List es pos) (eA iM ra):=⟨Dr h.h⟩
theorem xcB{x:Str}{id:String}{p:Pos}{e:Expr}{g:List PV→Res PV}(hc:gw X (.builtin id) g)(hm:X.mg x=none)(hv:bootBuiltins x=some (.builtin id))(ha:XA X H0 Hs0 (e::es) ra)(hg:Gl X x:=by rfl)
  (hn:x≠"__name__":=by decide) (hdb:(x==("__debug__":Str))=false:=by decide) (he:noStar e=true:=by rfl) (hpl:es.all noStar=true:=by rfl):
  XE X H0 Hs0 (.Call (.Name x p) (e::es) [] pos) (eA g ra):=⟨sx hc hg hm hv ha.h hn hdb (aB he) (la hpl)⟩
theorem xcT{x:Str}{T:String}{p:Pos}{e:Expr}{g:List PV→Res PV}(hc:gw X (.type T) g)(hm:X.mg x=none)(hv:bootBuiltins x=some (.type T))(ha:XA X H0 Hs0 (e::es) ra)(hg:Gl X x:=by rfl)
  (hn:x≠"__name__":=by decide) (hdb:(x==("__debug__":Str))=false:=by decide) (he:noStar e=true:=by rfl) (hpl:es.all noStar=true:=by rfl):
  XE X H0 Hs0 (.Call (.Name x p) (e::es) [] pos) (eA g ra):=⟨vQ hc hg hm hv ha.h hn hdb (aB he) (la hpl)⟩
theorem xcF{x:Str}{p:Pos}{e:Expr}{m:List PV→Res PV}(F:FunIs X x m)(ha:XA X H0 Hs0 (e::es) ra)(hg:Gl X x:=by rfl)
  (hdb:(x==("__debug__":Str))=false:=by decide) (he:noStar e=true:=by rfl) (hpl:es.all noStar=true:=by rfl):
  XE X H0 Hs0 (.Call (.Name x p) (e::es) [] pos) (eA (fun ps=>G.noErr (m ps)) ra):=⟨Bl F hg ha.h hdb (aB he) (la hpl)⟩
theorem xcI {T:String} {x:Str} {p1 p2:Pos} (ha:XE X H0 Hs0 a da) (hT:T∈c5) (hx:bootBuiltins x=some (.type T)) (hm:X.mg "isinstance" = none) (hm2:X.mg x=none) (hg:Gl X "isinstance":=by rfl) (hg2:Gl X x:=by rfl) (hn:x≠"__name__":=by decide)
  (hdb:(x==("__debug__":Str))=false:=by decide) (h1:noStar a=true:=by rfl):XE X H0 Hs0 (.Call (.Name "isinstance" p1) [a,.Name x p2] [] pos) (e1 (jX T) da):=⟨Du ha.h hT hx hg hm hg2 hm2 hn hdb (aB h1) rfl rfl⟩
theorem xiV (k:Nat) {x:Str} {np:Pos} (hb:XE X H0 Hs0 b db) (hN:X.N[k]? = some x:=by rfl) (hv:Vis X.env.scope x:=by first|exact Or.inl rfl|exact Or.inr (Or.inl rfl)|exact Or.inr (Or.inr rfl)) (hd:(x==("__debug__":Str))=false:=by decide)
  (hcd:(x==("__classdict__":Str))=false:=by decide) (hs:oA b=true:=by rfl):XE X H0 Hs0 (.Subscript (.Name x np) b pos) (ah k db):=⟨Ds hN hv hd hcd hb.h (pY hs)⟩
theorem xiX(ha:XE X H0 Hs0 a da)(hb:XE X H0 Hs0 b db)(hs:oA b=true:=by rfl):XE X H0 Hs0 (.Subscript a b pos) (e2 pIx da db):=⟨Dt ha.h hb.h (pY hs)⟩
theorem xlV (k:Nat) {x:Str} {np p:Pos} (hm:X.mg "len" = none) (hN:X.N[k]? = some x:=by rfl) (hv:Vis X.env.scope x:=by first|exact Or.inl rfl|exact Or.inr (Or.inl rfl)|exact Or.inr (Or.inr rfl)) (hd:(x==("__debug__":Str))=false:=by decide)
  (hcd:(x==("__classdict__":Str))=false:=by decide) (hg:Gl X "len":=by rfl):XE X H0 Hs0 (.Call (.Name "len" p) [.Name x np] [] pos) (bj k):=⟨Bj hN hv hd hcd hg hm rfl rfl⟩
theorem xo0:XO X H0 Hs0 none oNo:=⟨yK⟩
theorem xo(ha:XE X H0 Hs0 a da):XO X H0 Hs0 (some a) (oE da):=⟨yJ ha.h⟩
theorem xsl{lo hi:Option Expr}{dl dh:DO}{p2:Pos}(ha:XE X H0 Hs0 a da)(hl:XO X H0 Hs0 lo dl)(hh:XO X H0 Hs0 hi dh):XE X H0 Hs0 (.Subscript a (.Slice lo hi none p2) pos) (eSl da dl dh):=⟨yO ha.h hl.h hh.h⟩
theorem xtc{op:CmpOp}{g:PV→PV→Res PV}(ho:OpP X (compareOp op) g)(ha:XE X H0 Hs0 a da)(hb:XE X H0 Hs0 b db)(hm:gq b=true:=by rfl):XT X H0 Hs0 (.Compare a [op] [b] pos) (tV (e2 g da db)):=⟨A6 ho ha.h hb.h (lI hm)⟩
theorem xtv(ha:XE X H0 Hs0 a da)(he:se a=true:=by rfl):XT X H0 Hs0 a (tV da):=⟨A4 ha.h (vc he)⟩
theorem xtn(ha:XT X H0 Hs0 a ta):XT X H0 Hs0 (.UnaryOp .Not a pos) (G.eS ta):=⟨A5 ha.h⟩
theorem Aj(ha:XT X H0 Hs0 a ta):XW X H0 Hs0 (.BoolOp .And [a] pos) ta:=⟨yF ha.h⟩
theorem AB(ha:XT X H0 Hs0 a ta):XW X H0 Hs0 (.BoolOp .Or [a] pos) ta:=⟨A0 ha.h⟩
theorem Ai(ha:XT X H0 Hs0 a ta)(hb:XW X H0 Hs0 (.BoolOp .And (b::rest) pos) tb):XW X H0 Hs0 (.BoolOp .And (a::b::rest) pos) (G.nM ta tb):=⟨A3 ha.h hb.h⟩
theorem tH(ha:XT X H0 Hs0 a ta)(hb:XW X H0 Hs0 (.BoolOp .Or (b::rest) pos) tb):XW X H0 Hs0 (.BoolOp .Or (a::b::rest) pos) (G.tOr ta tb):=⟨Dg ha.h hb.h⟩
theorem xw(h:XW X H0 Hs0 a ta):XT X H0 Hs0 a ta:=⟨QW.qt h.h⟩
theorem xb0:XB X H0 Hs0 [] aQ:=⟨yH⟩
theorem xb1(h1:XS X H0 Hs0 st d1):XB X H0 Hs0 [st] d1:=⟨yG h1.h⟩
theorem xb(h1:XS X H0 Hs0 st d1)(h2:XB X H0 Hs0 sts d2):XB X H0 Hs0 (st::sts) (ao d1 d2):=⟨vF h1.h h2.h⟩
theorem bu(ha:XE X H0 Hs0 a da):XS X H0 Hs0 (.Return (some a) pos) (aJ da):=⟨A7 ha.h⟩
theorem qL:XS X H0 Hs0 st (fun _=>.stuck):=⟨QS.stuck⟩
theorem c9(hc:XT X H0 Hs0 c ta)(h1:XB X H0 Hs0 sts d1)(h2:XB X H0 Hs0 ss2 d2):XS X H0 Hs0 (.If c sts ss2 pos) (sIf ta d1 d2):=⟨Dh hc.h h1.h h2.h⟩
theorem aE(i:Nat){x:Str}{pos':Pos}(ha:XE X H0 Hs0 a da)(hN:X.N.Nodup:=by assumption)(hi:X.N[i]? = some x:=by rfl)(hx:Loc X.env.scope x:=by first|exact Or.inl rfl|exact Or.inr rfl)(hs:j0 a=true:=by rfl)
  (hf:X.fn x=true∨X.env.scope.names.lookup x=some .local:=by first|exact Or.inl rfl|exact Or.inr rfl):XS X H0 Hs0 (.Assign [.Name x pos'] a pos) (av i da):=⟨vI hN hi hx ha.h (ic hs) hf⟩
theorem uZ(i:Nat){x:Str}{lp pos':Pos}(ha:XA X H0 Hs0 es ra)(hN:X.N.Nodup:=by assumption)(hi:X.N[i]? = some x:=by rfl)(hx:Loc X.env.scope x:=by first|exact Or.inl rfl|exact Or.inr rfl)
  (hf:X.fn x=true∨X.env.scope.names.lookup x=some .local:=by first|exact Or.inl rfl|exact Or.inr rfl):XS X H0 Hs0 (.Assign [.Name x pos'] (.List es lp) pos) (lq i ra):=⟨A9 hN hi hx ha.h (ic rfl) hf⟩
theorem uY(hp:PassesOwn (model X.prog X.w) X.A X.env X.xe)(hc:XT X H0 Hs0 c ta)(hb:XB X H0 Hs0 sts d1):XS X H0 Hs0 (.While c sts [] pos) (cC ta d1):=⟨vG hp hc.h hb.h⟩
theorem xgn(i:Nat){x:Str}(hN:X.N.Nodup:=by assumption)(hi:X.N[i]? = some x:=by rfl)(hx:Loc X.env.scope x:=by first|exact Or.inl rfl|exact Or.inr rfl)(hf:X.fn x=true∨X.env.scope.names.lookup x=some .local:=by first|exact Or.inl rfl|exact Or.inr rfl):XG X H0 Hs0 (.Name x pos) (gN i):=⟨yM hN hi hx hf⟩
theorem fB{tg:Expr}(ha:XE X H0 Hs0 a da):XI X H0 Hs0 tg a (itE da):=⟨Bf ha.h⟩
theorem xr1 {tg:Expr} {p:Pos} (hm:X.mg "range" = none) (ha:XA X H0 Hs0 [a] ra) (hg:Gl X "range":=by rfl) (hs:noStar a=true:=by rfl):XI X H0 Hs0 tg (.Call (.Name "range" p) [a] [] pos) (itR aD ra):=⟨uc hg hm ha.h (aB hs)⟩
theorem xr3 {tg:Expr} {p:Pos} (hm:X.mg "range" = none) (ha:XA X H0 Hs0 [a,b,c] ra) (hg:Gl X "range":=by rfl) (hs:noStar a=true:=by rfl) (hs2:noStar b=true:=by rfl) (hs3:noStar c=true:=by rfl):
  XI X H0 Hs0 tg (.Call (.Name "range" p) [a,b,c] [] pos) (itR ib ra):=⟨t9 hg hm ha.h (by rw[aB hs,aB hs2,aB hs3];rfl) (by rw[aB hs2,aB hs3];rfl)⟩
theorem ji{tg iter:Expr}{d:DI}{g:DG}{bb:DS}(hp:PassesOwn (model X.prog X.w) X.A X.env X.xe)(hi:XI X H0 Hs0 tg iter d)(hg:XG X H0 Hs0 tg g)(hb:XB X H0 Hs0 sts bb)(hc:X.calm=true:=by rfl)(hs:gq iter=true:=by rfl):
  XS X H0 Hs0 (.For tg iter sts [] pos) (dZ d g bb):=⟨Bb hp hc hi.h hg.h hb.h (ir hs)⟩
end
section
variable {P:Program}{w:World}{K:PySem.W.Frag}{mg:Str→Option Value}{base h:Heap}
theorem aO{x:Str}{st:Stmt}{N ps:List Str}{k:Nat}{d:DS}(D:DefAt K x st)(KI:K.In h)(GN:h.Ns mainGlobals mg)(S:FnScope N ps (ak st))
  (hb:∀(kV doc pm:Value)(an:Option Addr)(cdv ct:Value)(us:List Value),us.length=ps.length→bindArgs (PySem.W.fnOf x x (fu st) (cK st) (ak st) .none kV doc pm an cdv ct) ⟨us,[]⟩=pure (ps.zip us))
  (hbody:∀(f:Addr)(cdv:Value)(A:Around)(outer:List Env)(s:Shared)(H Hs:Hp)(E:XK),Room k (A.deeper (envOfC x (ak st) s.heap.objs.size f cdv)) →
   XB (mQ (CXG P w) P w K mg base N x (ak st) f cdv A outer s H E).nox H Hs (cK st) d):FunIn P w K mg base x (k+1) (bH ps.length N.length d):=by
 obtain⟨f,fd,a,F⟩:=D.ex
 exact Ct F (PySem.W.mg_of KI GN a) S hb fun cdv A outer s H Hs E hr=>(hbody f cdv A outer s H Hs E hr).h
end
end G
namespace G
open PySem PySem.Spec PyProof.Rows L2
theorem B6 {P:Program} {w:World} {K:PySem.W.Frag} {mg:Str→Option Value} {h:Heap} {st:Stmt} {k:Nat} {m:List PV→Res PV} (D:DefAt K "law" st) (KI:K.In h) (GN:h.Ns mainGlobals mg)
  (hb:∀(kV doc pm:Value) (an:Option Addr) (cdv ct:Value) (us:List Value),us.length=(["script"]:List Str).length→bindArgs (PySem.W.fnOf "law" "law" (fu st) (cK st) (ak st) .none kV doc pm an cdv ct) ⟨us,[]⟩=pure ((["script"]:List Str).zip us))
  (all:∀(base:Heap) (f:Addr) (fd:FuncData),Fun K "law" "law" st f fd→FnOk P w K mg base (CXG P w) k f fd ["script"] (Fsp K 1 m)):
  ∃(a:Addr) (fd:FuncData),mg "law" = some (.ref a)∧(∀(s:Shared) (u:Value),BindsTo s fd ⟨[u],[]⟩ [("script",u)])∧∀base:Heap,K.In base→base.Ns mainGlobals mg→FnOk P w K mg base (CXG P w) k a fd ["script"] (Fsp K 1 m):=by
 obtain⟨f,fd,a,F⟩:=D.ex
 have hm:=PySem.W.mg_of KI GN a
 have F0:=F
 obtain⟨oc,od,kV,doc,pm,an,cdv,ct,osl,rfl,lk,hcd⟩:=F.ex
 exact⟨f,_,hm,fun s u=>.of_eq (hb kV doc pm an cdv ct [u] rfl),fun base _ _=>all base f _ F0⟩
theorem B7 {P:Program} {w:World} {K:PySem.W.Frag} {mg:Str→Option Value} {base:Heap} {st:Stmt} {f:Addr} {fd:FuncData} {N:List Str} {k:Nat} {d:DS} (F:Fun K "law" "law" st f fd) (S:FnScope N ["script"] (ak st))
  (hbody:∀(cdv:Value) (A:Around) (outer:List Env) (s:Shared) (H Hs:Hp) (E:XK),Room k (A.deeper (envOfC "law" (ak st) s.heap.objs.size f cdv)) →
   XB (mQ (CXG P w) P w K mg base N "law" (ak st) f cdv A outer s H E).nox H Hs (cK st) d):FnOk P w K mg base (CXG P w) (k+1) f fd ["script"] (Fsp K 1 (bH 1 N.length d)):=
 Av F S fun cdv A outer s H Hs E hr=>(hbody cdv A outer s H Hs E hr).h
end G
namespace G
open PySem PySem.Spec PyProof.Rows L2
def dX(cells:List (Str×Addr)):List (Str×NameKind)→List (Str×Addr)→Option (List (Str×Addr))
 |[],acc=>some acc
 | (n,k)::r,acc=>if k = .free then (match cells.lookup n with
   |some a=>dX cells r ((n,a)::acc)
   |none=>none) else dX cells r acc
theorem j7{env:Env}:∀(names:List (Str×NameKind))(acc cl:List (Str×Addr)),dX env.cells names acc=some cl →
  (forIn names acc fun x r=>(match x with | (name,kind)=>if (kind==NameKind.free)=true then do let a ←cellOf env name;pure (ForInStep.yield ((name,a)::r)) else pure (ForInStep.yield r):Sem (ForInStep (List (Str×Addr)))))=pure cl
 |[],acc,cl,h=>by
  have:acc=cl:=Option.some.inj h
  subst this
  rfl
 | (n,k)::r,acc,cl,h=>by
  rw[List.forIn_cons]
  unfold dX at h
  by_cases hk:k=.free
  ·subst hk
   rw[if_pos rfl]at h
   split at h
   ·rename_i a ha
    have ih:=j7 r ((n,a)::acc) cl h
    simp only[beq_self_eq_true,if_true,cellOf,ha,pure_bind]
    exact ih
   ·cases h
  ·rw[if_neg hk]at h
   have hk':(k==NameKind.free)=false:=by simpa using hk
   have ih:=j7 r acc cl h
   simp only[hk',Bool.false_eq_true,if_false,pure_bind]
   exact ih
theorem jG{env:Env}{scope:Scope}{cl:List (Str×Addr)}(h:dX env.cells scope.names []=some cl):closureFor scope env=pure cl:=by
 unfold closureFor
 have:=j7 (env:=env) scope.names [] cl h
 exact(congrArg (fun t=>t >>= fun cs=>pure cs) this).trans (by rfl)
theorem g9{cells:List (Str×Addr)}:∀(names:List (Str×NameKind))(acc cl:List (Str×Addr)),(∀x c,acc.lookup x=some c→cells.lookup x=some c)→dX cells names acc=some cl→∀x c,cl.lookup x=some c→cells.lookup x=some c
 |[],acc,cl,ha,h,x,c,e=>by
  have:acc=cl:=Option.some.inj h
  subst this
  exact ha x c e
 | (n,k)::r,acc,cl,ha,h,x,c,e=>by
  unfold dX at h
  split at h
  ·split at h
   ·rename_i a hn
    refine g9 r _ cl (fun y d hy=>?_) h x c e
    rw[List.lookup_cons]at hy
    split at hy
    ·rename_i hb
     have:y=n:=by simpa using hb
     subst this
     cases hy
     exact hn
    ·exact ha y d hy
   ·cases h
  ·exact g9 r acc cl ha h x c e
end G
namespace G
open PySem PySem.Spec PyProof.Rows L2
@[reducible] def cxC(X:Cx)(pins:List (Addr×Obj))(scope:Scope)(cl:List (Str×Addr))(C:Addr)(N:List Str)(fp:List Addr)(s:Shared)(H:Hp):Cx:=
 { X with env:=compEnvC scope cl C X.env,N:=N,s₀:=s,H₀:=H,outer:=X.stack,stack:=X.stack,ex:=fp,fn:=fun _=>false,pn:=X.pn++pins,xe:=fun _ _=>False }
def inn(k:Nat)(ix:List Nat)(σ:PSt):PSt:=List.replicate k none++ix.map fun i=>match σ[i]? with
 |some (some (.sh p))=>some (.sh p)
 |_=>none
def j4(k:Nat)(ix:List Nat)(τ:L2.St):L2.St:=List.replicate k none++ix.map fun i=>(τ[i]?).join
theorem m6{α:Type}{k j:Nat}{x:α}(h:(List.replicate k (none:Option α))[j]? = some (some x)):False:=by
 rw[List.getElem?_replicate]at h
 split at h<;>cases h
theorem kL{k:Nat}{ix:List Nat}{σ:PSt}{j:Nat}{sv:SV}(h:(inn k ix σ)[j]? = some (some sv)):∃i p,k≤j∧ix[j-k]? = some i∧σ[i]? = some (some (.sh p))∧sv=.sh p:=by
 unfold inn at h
 by_cases hj:j<k
 ·rw[List.getElem?_append_left (by simpa using hj)]at h
  exact(m6 h).elim
 ·rw[List.getElem?_append_right (by simpa using hj),List.length_replicate,List.getElem?_map]at h
  cases e:ix[j-k]? with
  |none=>rw[e]at h;cases h
  |some i=>
   rw[e]at h
   have h':(match σ[i]? with
    |some (some (.sh p))=>some (.sh p)
    |_=>none)=some sv:=Option.some.inj h
   split at h'
   ·rename_i p ep
    cases h'
    exact⟨i,p,by omega,rfl,ep,rfl⟩
   ·cases h'
theorem zL{k:Nat}{ix:List Nat}{τ:L2.St}{j i:Nat}{v:V}(hj:k≤j)(e:ix[j-k]? = some i)(h:τ[i]? = some (some v)):(j4 k ix τ)[j]? = some (some v):=by
 unfold j4
 rw[List.getElem?_append_right (by simpa using hj),List.length_replicate,List.getElem?_map,e]
 show some ((τ[i]?).join)=_
 rw[h];rfl
theorem wV{k:Nat}{ix:List Nat}{τ:L2.St}{j:Nat}{v:V}(h:(j4 k ix τ)[j]? = some (some v)):∃i,k≤j∧ix[j-k]? = some i∧τ[i]? = some (some v):=by
 unfold j4 at h
 by_cases hj:j<k
 ·rw[List.getElem?_append_left (by simpa using hj)]at h
  exact(m6 h).elim
 ·rw[List.getElem?_append_right (by simpa using hj),List.length_replicate,List.getElem?_map]at h
  cases e:ix[j-k]? with
  |none=>rw[e]at h;cases h
  |some i=>
   rw[e]at h
   have h':(τ[i]?).join=some v:=Option.some.inj h
   refine⟨i,by omega,rfl,?_⟩
   cases q:τ[i]? with
   |none=>rw[q]at h';cases h'
   |some z=>rw[q]at h';exact congrArg some h'
theorem SR.inn{K:PySem.W.Frag}{H0 Hs0 Hs H:Hp}{σ:PSt}{τ:L2.St}(S:SR K H0 Hs0 Hs H σ τ)(k:Nat)(ix:List Nat):SR K H Hs Hs H (G.inn k ix σ) (j4 k ix τ):=by
 refine⟨.refl S.g.i,fun j sv e=>?_,fun j l xs ys a _ e1=>?_,by simp[G.inn,j4]⟩
 ·obtain⟨i,p,hj,e1,e2,rfl⟩:=kL e
  obtain⟨v,e3,r⟩:=S.slot i _ e2
  exact⟨v,zL hj e1 e3,r⟩
 ·obtain⟨_,_,_,_,_,z⟩:=kL e1
  cases z
structure CompOk (X:Cx) (scope:Scope) (cl:List (Str×Addr)) (N:List Str) (k:Nat) (ix:List Nat):Prop where
 kind:scope.kind=.function
 nocell:∀y∈scope.names,y.2≠.cell
 names:∀y∈scope.names,y.2=.local→scope.names.lookup y.1=some .local
 clos:dX X.env.cells scope.names []=some cl
 has:∀x,((relabel scope X.env).names.lookup x=some .cell∨(relabel scope X.env).names.lookup x=some .free)→∃c,cl.lookup x=some c
 nd:N.Nodup
 len:N.length=k+ix.length
 at':∀(j i:Nat)(x:Str),ix[j]? = some i→N[k+j]? = some x→X.N[i]? = some x∧X.env.kindOf x=some .cell∧((relabel scope X.env).names.lookup x=some .cell∨(relabel scope X.env).names.lookup x=some .free)
section
variable {X:Cx}{pins:List (Addr×Obj)}{H0 Hs0 Hs H:Hp}{σ:PSt}{τ:L2.St}{s:Shared}
theorem kA(I:Inv X pins τ H s){p:Addr}(h1:p≠X.env.locals)(h2:p∉X.fs):p∉frs X.stack:=fun h=>(List.mem_cons.mp (I.stkSub p h)).elim h1 h2
theorem qg{scope:Scope}{cl:List (Str×Addr)}{N:List Str}{k:Nat}{ix:List Nat}{fp:List Addr}{h4:Heap}{t4:Nat}(I:Inv X pins τ H s)(O:CompOk X scope cl N k ix)(hcalm:X.calm=true)
  (hfp:∀b∈fp,gx X pins H b) (hfl:∀b∈fp,b<s.heap.objs.size) (hns:h4.Ns s.heap.objs.size (fun _=>none)) (hk:∀b o,s.heap.get? b=some o→h4.get? b=some o):
  Inv (cxC X pins scope cl s.heap.objs.size N fp s H) [] (j4 k ix τ) H { s with heap:=h4,toks:=t4 }:=by
 have sub:=g9 (cells:=X.env.cells) scope.names [] cl (fun x c e=>by cases e) O.clos
 have lt:∀{b:Addr}{o:Obj},s.heap.get? b=some o→b≠s.heap.objs.size:=fun e=>Nat.ne_of_lt (Heap.lt_size e)
 have celln:∀x c,cl.lookup x=some c→c≠s.heap.objs.size:=fun x c e=>by
  obtain⟨v,o,ho,_⟩:=I.cell x c (sub x c e)
  exact lt ho
 refine⟨⟨I.ok.mod,?_,I.ok.glob,I.ok.blt,Nat.le_refl _,fun x y c e1 e2=>I.ok.inj x y c (sub x c e1) (sub y c e2),fun x hx=>O.has x hx,fun x c hf=>?_,I.ok.hd,I.ok.frames,.inl rfl,fun b hb=>⟨?_,fun x c e=>(hfp b hb).2.2.2.2.1 x c (sub x c e)⟩,I.bs,Nat.le_trans I.ok.bsz I.sz,fun b o e hb=>?_,fun b hb=>kA I (hfp b hb).2.1 (hfp b hb).2.2.1,I.stack,I.stkFree⟩,
  rfl,I.bare,Un.kept hk,⟨_,hns,fun j x v e1 e2 e3=>?_⟩,fun x c e=>?_,I.hok.fresh (Nat.le_refl _),fun x c e=>I.freeC x c (sub x c e),fun p hp=>?_,I.hok.kept hk,?_⟩
 ·show(relabel scope X.env).kind=.function
  exact O.kind
 ·cases hf
 ·exact Nat.ne_of_lt (hfl b hb)
 ·have e':=I.bs b o e
  obtain⟨f0,f1,f2,f3,_⟩:=hfp b hb
  rcases f3 with z|z
  ·exact I.ok.noex b o e z
  ·have:=(I.ok.bs b o e).1
   exact absurd (Nat.lt_of_lt_of_le (Heap.lt_size this) z) (Nat.lt_irrefl _)
 ·obtain⟨i,hj,ei,eτ⟩:=wV e2
  have ex:N[k+(j-k)]? = some x:=by rw[show k+(j-k)=j by omega];exact e1
  obtain⟨a1,a2,a3⟩:=O.at' (j-k) i x ei ex
  obtain⟨m,hn,hl⟩:=I.loc
  obtain⟨u,r,l⟩:=hl i x v a1 eτ (.inr (.inl a2))
  refine⟨u,r,?_⟩
  rcases l with ⟨q,_⟩|⟨q,c,ec,z⟩
  ·rw[a2]at q;cases q
  ·obtain⟨c',ec'⟩:=O.has x a3
   have:c'=c:=Option.some.inj ((sub x c' ec').symm.trans ec)
   subst this
   obtain⟨o,ho,hd⟩:=z
   exact .inr ⟨a3,c',ec',o,hk _ _ ho,hd⟩
 ·obtain⟨v,o,ho,hd⟩:=I.cell x c (sub x c e)
  exact⟨v,o,hk _ _ ho,hd⟩
 ·have hp':p∈X.pn++pins:=by simpa[cxC] using hp
  obtain⟨e,n,ne,nf,d⟩:=I.pin p hp'
  exact⟨hk _ _ e,n,lt e,kA I ne nf,d⟩
 ·show(j4 k ix τ).length=N.length
  rw[O.len];simp[j4]
end
end G
namespace G
open PySem PySem.Spec PyProof.Rows L2
theorem SR.weak{K:PySem.W.Frag}{H0 Hs0 Hs H:Hp}{σ σ':PSt}{τ:L2.St}(S:SR K H0 Hs0 Hs H σ τ)(w:∀(j:Nat)(sv:SV),σ'[j]? = some (some sv)→σ[j]? = some (some sv))(hl:σ'.length=σ.length):SR K H0 Hs0 Hs H σ' τ:=
 ⟨S.g,fun j sv e=>S.slot j sv (w j sv e),fun i j xs ys a hij e1 e2=>S.inj i j xs ys a hij (w i _ e1) (w j _ e2),hl.trans S.len⟩
theorem SR.hid{K:PySem.W.Frag}{H0 Hs0 Hs H:Hp}{σ:PSt}{τ:L2.St}{D:Addr}{o:HO}(S:SR K H0 Hs0 Hs H σ τ)(h1:Hs D=none)(h2:H0 D=none)(no:∀(i:Nat)(xs:List PV),σ[i]?≠some (some (.own xs))):SR K H0 Hs0 Hs (upd H D o) σ τ:=by
 have sm:∀{b:Addr},b≠D→upd H D o b=H b:=fun h=>aR h
 refine⟨⟨S.g.s,fun b u h=>?_,fun b u h=>?_,S.g.o⟩,fun j sv e=>?_,S.inj,S.len⟩
 ·rw[sm (bD h h1)];exact S.g.i b u h
 ·rw[sm (bD h h2)];exact S.g.h b u h
 ·obtain⟨v,e1,r⟩:=S.slot j sv e
  cases sv with
  |sh p=>exact⟨v,e1,r⟩
  |own xs=>exact absurd e (no j xs)
theorem f7{k:Nat}{ix:List Nat}{σ:PSt}(i:Nat)(xs:List PV):(inn k ix σ)[i]?≠some (some (.own xs)):=fun h=>by
 obtain⟨_,_,_,_,_,z⟩:=kL h
 cases z
theorem SR.base'{K:PySem.W.Frag}{A B H0 Hs0 Hs H:Hp}{σ:PSt}{τ:L2.St}(S:SR K A B Hs H σ τ)(no:∀(i:Nat)(xs:List PV),σ[i]?≠some (some (.own xs)))(g:Grow Hs0 H0 Hs H):SR K H0 Hs0 Hs H σ τ:=
 ⟨g,fun j sv e=>by
  obtain⟨v,e1,r⟩:=S.slot j sv e
  cases sv with
  |sh p=>exact⟨v,e1,r⟩
  |own xs=>exact absurd e (no j xs),fun i j xs ys a _ e1=>absurd e1 (no i xs),S.len⟩
theorem p6{r:Res PV}{q:PV}(h:noErr r=.ok q):r=.ok q:=by
 cases r with
 |ok p=>exact h
 |err c=>cases h
 |stuck=>cases h
def mapR(f:PV→Res PV):List PV→Res (List PV)
 |[]=>.ok []
 |p::ps=>(f p).bind fun q=>(mapR f ps).bind fun qs=>.ok (q::qs)
def dW(g:DG)(de:DE)(σ0:PSt)(p:PV):Res PV:=match g p σ0 with
 |.ok σ1=>noErr (de σ1)
 |_=>.stuck
def rV(d:DI)(g:DG)(de:DE)(k:Nat)(ix:List Nat):PSt→Res (List PV):=fun σ=>(d σ).bind fun ps=>match mapR (dW g de (inn k ix σ)) ps with
 |.ok qs=>if qs.length≤10000000 then .ok qs else .stuck
 |_=>.stuck
def c6(d:DI)(g:DG)(de:DE)(k:Nat)(ix:List Nat):DE:=fun σ=>(rV d g de k ix σ).bind fun qs=>.ok (.lst qs)
def eT(i:Nat)(d:DI)(g:DG)(de:DE)(k:Nat)(ix:List Nat):DS:=fun σ=>(rV d g de k ix σ).bind fun qs=>.ok (.next (σ.set i (some (.sh (.lst qs)))))
def gH(i:Nat)(d:DI)(g:DG)(de:DE)(k:Nat)(ix:List Nat):DS:=fun σ=>(rV d g de k ix σ).bind fun qs=>.ok (.next (σ.set i (some (.own qs))))
theorem p8{f:PV→Res PV}:∀{ps qs:List PV},mapR f ps=.ok qs→qs.length=ps.length
 |[],qs,h=>by cases h;rfl
 |p::ps,qs,h=>by
  unfold mapR at h
  cases e:f p with
  |ok q=>
   rw[e]at h
   simp only[Res.bind_ok]at h
   cases e2:mapR f ps with
   |ok rs=>
    rw[e2]at h
    cases h
    rw[List.length_cons,List.length_cons,p8 e2]
   |err c=>rw[e2]at h;cases h
   |stuck=>rw[e2]at h;cases h
  |err c=>rw[e]at h;cases h
  |stuck=>rw[e]at h;cases h
theorem sG{f:PV→Res PV}:∀{ps qs:List PV},mapR f ps=.ok qs→∀(i:Nat)(p:PV),ps[i]? = some p→∃q,qs[i]? = some q∧f p=.ok q
 |[],qs,h,i,p,e=>by simp at e
 |p0::ps,qs,h,i,p,e=>by
  unfold mapR at h
  cases e1:f p0 with
  |ok q=>
   rw[e1]at h
   simp only[Res.bind_ok]at h
   cases e2:mapR f ps with
   |ok rs=>
    rw[e2]at h
    cases h
    cases i with
    |zero=>simp at e;subst e;exact⟨q,rfl,e1⟩
    |succ i=>
     obtain⟨q',h1,h2⟩:=sG e2 i p (by simpa using e)
     exact⟨q',by simpa using h1,h2⟩
   |err c=>rw[e2]at h;cases h
   |stuck=>rw[e2]at h;cases h
  |err c=>rw[e1]at h;cases h
  |stuck=>rw[e1]at h;cases h
section
variable {X:Cx}{pins:List (Addr×Obj)}{H0 Hs0:Hp}{σ:PSt}{τ:L2.St}{tg elt iter:Expr}{scope:Scope}{pos:Pos}{cl:List (Str×Addr)}{N:List Str}{k:Nat}{ix:List Nat}{g:DG}{de:DE}
theorem xA{Hs2 H2:Hp}{s2:Shared}{it:Addr}{fp:List Addr}{tn:Nat→Heap→Prop}{J:It}{ps qs:List PV}{h4:Heap}{t4:Nat}{RR:Result→Shared→Prop}
  (I2:Inv X pins τ H2 s2) (S2:SR X.K H0 Hs0 Hs2 H2 σ τ) (O:CompOk X scope cl N k ix) (hcalm:X.calm=true) (T:Turn X.prog X.w X.K tg J fp it tn) (st:tn 0 s2.heap) (fpok:∀b∈fp,gx X pins H2 b) (jok:JOk X.K J Hs2 ps)
  (hg:∀(C:Addr)(s:Shared)(H A B:Hp),QG (cxC X pins scope cl C N fp s H) A B tg g)
  (he:∀(C:Addr)(s:Shared)(H A B:Hp),QE (cxC X pins scope cl C N fp s H) A B elt de)
  (gk:∀p σ1,g p (inn k ix σ)=.ok σ1→(∀(j:Nat)(sv:SV),(inn k ix σ)[j]? = some (some sv)→σ1[j]? = some (some sv))∧σ1.length=(inn k ix σ).length)
  (hm:mapR (dW g de (inn k ix σ)) ps=.ok qs) (hl:qs.length≤10000000)
  (hns:h4.Ns (s2.heap.objs.size+1) (fun _=>none)) (hsb:∀b o,(s2.heap.push { cls:=.type "list",data:=.seq ([]:List Value).toArray }).get? b=some o→h4.get? b=some o)
  (hR:∀(s':Shared)(Hs' H':Hp)(vs:List V)(m:Str→Option Value),Inv X pins τ H' s'→SR X.K H0 Hs0 Hs' H' σ τ→bc Hs2 Hs'→Grow Hs2 H2 Hs' H'→H' s2.heap.objs.size=some (.lst vs)→Hs' s2.heap.objs.size=none→H2 s2.heap.objs.size=none→Reps X.K Hs' vs qs→s'.heap.Ns (s2.heap.objs.size+1) m →
   H' (s2.heap.objs.size+1)=none→RR (.ok .next) s'):
  codeAny (model X.prog X.w) X.A (.compStart (.ListComp elt [⟨tg,iter,[],0⟩] scope pos) 0 (.ref it) (.ref s2.heap.objs.size) (compEnvC scope cl (s2.heap.objs.size+1) X.env)) RR { s2 with heap:=h4,toks:=t4 }:=by
 have hD:H2 s2.heap.objs.size=none:=I2.hok.fresh (Nat.le_refl _)
 have hDs:Hs2 s2.heap.objs.size=none:=S2.g.i.free hD
 have I3:Inv X pins τ (upd H2 s2.heap.objs.size (.lst [])) { s2 with heap:=s2.heap.push { cls:=.type "list",data:=.seq ([]:List Value).toArray } }:=I2.lnew (its:=[]) (ys:=[]) (t':=s2.toks) .nil (by show 0≤sizeLine;exact Nat.zero_le _)
 have hsz:(s2.heap.push { cls:=.type "list",data:=.seq ([]:List Value).toArray }).objs.size=s2.heap.objs.size+1:=Heap.size_push ..
 have fpl:∀b∈fp,∃o,s2.heap.get? b=some o:=fun b hb=>by obtain⟨o,e,_⟩:=T.obj _ _ st b hb;exact⟨o,e⟩
 have fpD:∀b∈fp,b≠s2.heap.objs.size:=fun b hb=>by obtain⟨o,e⟩:=fpl b hb;exact Nat.ne_of_lt (Heap.lt_size e)
 have fpok3:∀b∈fp,gx X pins (upd H2 s2.heap.objs.size (.lst [])) b:=fun b hb=>⟨by rw[aR (fpD b hb)];exact(fpok b hb).1,(fpok b hb).2⟩
 have I4:=qg (h4:=h4) (t4:=t4) (fp:=fp) I3 O hcalm fpok3 (fun b hb=>by obtain⟨o,e⟩:=fpl b hb;exact Nat.lt_trans (Heap.lt_size e) (by rw[hsz];exact Nat.lt_succ_self _)) (by rw[hsz];exact hns) hsb
 rw[hsz]at I4
 generalize hX:cxC X pins scope cl (s2.heap.objs.size+1) N fp { s2 with heap:=s2.heap.push { cls:=.type "list",data:=.seq ([]:List Value).toArray } } (upd H2 s2.heap.objs.size (.lst []))=X' at I4
 have eA:X'.A=X.A:=by rw[←hX]
 have eP:X'.prog=X.prog:=by rw[←hX]
 have ew:X'.w=X.w:=by rw[←hX]
 have eK:X'.K=X.K:=by rw[←hX]
 have eE:X'.env=compEnvC scope cl (s2.heap.objs.size+1) X.env:=by rw[←hX]
 have exe:X'.xe=fun _ _=>False:=by rw[←hX]
 have ecalm:X'.calm=true:=by rw[←hX];exact hcalm
 have emg:X'.mg=X.mg:=by rw[←hX]
 have ebase:X'.base=X.base:=by rw[←hX]
 have eN:X'.N=N:=by rw[←hX]
 have stat:∀{H':Hp},(∀b∈fp,H' b=none)→∀b∈fp,gx X' [] H' b:=fun {H'} hn b hb=>by
  obtain⟨f0,f1,f2,f3,f4,f5⟩:=fpok b hb
  have sub:=g9 (cells:=X.env.cells) scope.names [] cl (fun x c e=>by cases e) O.clos
  obtain⟨o,e⟩:=fpl b hb
  refine⟨hn b hb,?_,?_,?_,fun x c ec=>?_,fun p hp=>?_⟩
  ·rw[eE];exact Nat.ne_of_lt (Nat.lt_succ_of_lt (Heap.lt_size e))
  ·have:X'.fs=frs X.stack:=by rw[←hX]
   rw[this];exact kA I2 f1 f2
  ·exact .inl (by rw[←hX];exact hb)
  ·rw[eE]at ec;exact f4 x c (sub x c ec)
  ·have:p∈X.pn++pins:=by rw[←hX]at hp;simpa[cxC] using hp
   exact f5 p this
 have st4:tn 0 h4:=T.keep _ _ _ st fun b hb o e=>hsb _ _ (Heap.get?_push_of_some _ e)
 have S4:SR X.K H2 Hs2 Hs2 (upd H2 s2.heap.objs.size (.lst [])) (inn k ix σ) (j4 k ix τ):=(S2.inn k ix).hid hDs hD (fun i xs=>f7 i xs)
 have hlen:=p8 hm
 have loop:∀s5:Shared,s5 = { s2 with heap:=h4,toks:=t4 }→codeAny (model X.prog X.w) X.A (.compLoop (.ListComp elt [⟨tg,iter,[],0⟩] scope pos) 0 (.ref it) (.ref s2.heap.objs.size) (compEnvC scope cl (s2.heap.objs.size+1) X.env)) RR s5:=by
  intro s5 hs5
  refine codeAny_loop rfl (fun n s'=>∃i τ' Hs' H' vs,n+i=ps.length∧Inv X' [] τ' H' s'∧tn i s'.heap∧(∀b∈fp,H' b=none)∧SR X.K H2 Hs2 Hs' H' (inn k ix σ) τ'∧H' s2.heap.objs.size=some (.lst vs)∧Hs' s2.heap.objs.size=none∧Reps X.K Hs' vs (qs.take i)) ?_ ps.length
   ⟨0,j4 k ix τ,Hs2,_,[],rfl,hs5▸I4,hs5▸st4,fun b hb=>by rw[aR (fpD b hb)];exact(fpok b hb).1,S4,aC,hDs,.nil⟩
  rintro n s6 ⟨i,τ6,Hs6,H6,vs,hni,I6,st6,fr6,S6,hD6,hDs6,R6⟩
  show wpAny _ _ ((compTurn (.ListComp elt [⟨tg,iter,[],0⟩] scope pos) 0 (.ref it) (.ref s2.heap.objs.size) (compEnvC scope cl (s2.heap.objs.size+1) X.env)).onRaise (fun x=>do noteFrame x (compEnvC scope cl (s2.heap.objs.size+1) X.env);theTreesLotGoes x)) _ _ s6
  refine wpAny_noted ?_
  rw[compTurn_list1]
  refine wpAny_bind (wpAny_standAt ?_)
  refine wpAny_noRaise ?_
  obtain⟨j1,j2⟩:=jok i H6 Hs6 S6.g.s S6.g.i
  change wpAny (model X.prog X.w) X.A _ _ _ s6
  by_cases hlt:i<ps.length
  ·obtain⟨go,yl⟩:=j1 hlt
   have hp':ps[i]? = some ps[i]:=List.getElem?_eq_getElem hlt
   obtain⟨q,hq,hf⟩:=sG hm i ps[i] hp'
   have TI:=T.item X' eP ew eK ecalm i [] s6 τ6 H6 (fun _ _=>False) I6 (stat fr6) st6 go
   rw[eA]at TI
   refine wpAny_bind (thn TI fun r s7 ⟨u,hr,h7⟩=>?_)
   subst hr
   refine wpAny_bind (thn h7 fun _ s8 ⟨x,H8,I8,r8,y8,st8,fr8⟩=>?_)
   obtain⟨rfl,p,ep,rp⟩:=yl x H8 y8
   have ep':ps[i]=p:=by rw[hp']at ep;exact Option.some.inj ep
   subst ep'
   have I8':=I8.pinned (stat fr8) (T.obj _ _ st8)
   unfold dW at hf
   have hg':QG X' H8 Hs6 tg g:=hX▸hg _ _ _ H8 Hs6
   have he':QE X' H8 Hs6 elt de:=hX▸he _ _ _ H8 Hs6
   have S8:SR X.K H8 Hs6 Hs6 H8 (inn k ix σ) τ6:=S6.base' (fun i xs=>f7 i xs) (.refl S6.g.i)
   cases eg:g ps[i] (inn k ix σ) with
   |ok σ1=>
    rw[eg]at hf
    have hf:noErr (de σ1)=.ok q:=hf
    obtain⟨w1,w2⟩:=gk _ _ eg
    have hgr:=hg' _ s8 τ6 H8 x u (fun τ9 H9=>∃Hs9,SR X.K H8 Hs6 Hs9 H9 σ1 τ9) I8' r8 ⟨Hs6,inn k ix σ,ps[i],eK▸S8,eK▸(rp.mono S6.g.s),by
     rw[eg]
     exact fun Hs' H' τ' e S'=>⟨Hs',eK▸S'⟩⟩
    rw[eP,ew,eA,eE,exe]at hgr
    refine wpAny_bind (thn hgr fun _ s9 ⟨τ9,H9,I9,Hs9,S9⟩=>?_)
    have her:=he' _ s9 τ9 H9 (fun y H10=>∃Hs10,Grow Hs9 H9 Hs10 H10∧Rep X.K Hs10 y q) I9 ⟨Hs9,σ1,eK▸S9,by
     rw[p6 hf]
     exact fun v Hs' H' g' r'=>⟨Hs',g',eK▸r'⟩⟩
    rw[eP,ew,eA,eE,exe]at her
    refine wpAny_bind (wpAny_bind (thn her fun y s10 ⟨y',H10,I10,ry,Hs10,g10,rq⟩=>?_))
    have g6:Grow Hs6 H8 Hs10 H10:=S9.g.trans g10
    have hD10:H10 s2.heap.objs.size=some (.lst vs):=g6.h _ _ hD6
    have hDs10:Hs10 s2.heap.objs.size=none:=g6.o _ (by rw[hD6];exact fun z=>by cases z) hDs6
    have hvl:vs.length<sizeLine:=by
     rw[R6.length,sizeLine_eq,List.length_take]
     omega
    have hap:=j3 (X:=X') _ s10 τ9 H10 (.ref s2.heap.objs.size) [y'] (.ref s2.heap.objs.size) [y] (fun _ H'=>H'=upd H10 s2.heap.objs.size (.lst (vs++[y']))) I10 rfl (.cons ry .nil) ⟨_,vs,y',rfl,rfl,hD10,hvl,rfl⟩
    rw[eP,ew,eA,exe]at hap
    refine wpAny_bind (thn hap fun _ s11 ⟨_,H11,I11,_,eH⟩=>wpAny_pure (wpAny_pure ⟨rfl,n-1,by omega,i+1,τ9,Hs10,H11,vs++[y'],by omega,I11.unpinned,?_,?_,?_,?_,hDs10,?_⟩))
    ·exact T.keep _ _ _ st8 fun b hb o e=>(I11.pin (b,o) (List.mem_append_right _ (List.mem_append_right _ (bQ hb e)))).1
    ·intro b hb
     obtain⟨o,e,_⟩:=T.obj _ _ st8 b hb
     exact(I11.pin (b,o) (List.mem_append_right _ (List.mem_append_right _ (bQ hb e)))).2.1
    ·subst eH
     exact(((S9.weak w1 w2.symm).grow g10).base' (fun i xs=>f7 i xs) (S6.g.trans g6)).hid hDs10 hD (fun i xs=>f7 i xs)
    ·subst eH;exact aC
    ·rw[List.take_add_one,hq]
     exact(R6.mono g6.s).append (.cons rq .nil)
   |err c=>rw[eg]at hf;cases hf
   |stuck=>rw[eg]at hf;cases hf
  ·have TD:=T.done X' eP ew eK ecalm i [] s6 τ6 H6 (fun _ _=>False) I6 (stat fr6) st6 (j2 (by omega))
   rw[eA]at TD
   refine wpAny_bind (thn TD fun r s7 ⟨hr,I7⟩=>?_)
   subst hr
   refine wpAny_pure ?_
   have hfull:qs.take i=qs:=List.take_of_length_le (by omega)
   rw[hfull]at R6
   obtain⟨m,hm7,_⟩:=I7.loc
   have hfree:=I7.free
   have hos:=I7.os
   have hun:=I7.base
   have hok:=I7.hok
   rw[eE]at hm7 hfree
   rw[eP,ew]at hok
   rw[←hX]at hos hun
   have I9:Inv X pins τ H6 s7:=I3.call' (ch:=fp) hos hun hok I7.bare fun b hb=>by
    obtain⟨f0,f1,f2,f3,f4,f5⟩:=fpok b hb
    exact⟨f3,f1,f4,f5⟩
   exact hR s7 Hs6 H6 vs m I9 (S2.grow S6.g) S6.g.s S6.g hD6 hDs6 hD R6 hm7 hfree
 exact codeAny_compStart_list (loop _ rfl) (T.self _ _ _ _ _ st4 (loop _ rfl))
end
end G
namespace G
open PySem PySem.Spec PyProof.Rows L2
section
variable {X:Cx}{pins:List (Addr×Obj)}{H0 Hs0:Hp}{σ:PSt}{τ:L2.St}{tg elt iter:Expr}{scope:Scope}{pos:Pos}{cl:List (Str×Addr)}{N:List Str}{k:Nat}{ix:List Nat}{g:DG}{de:DE}{d:DI}
theorem kK{H:Hp}{s:Shared}{C:Addr}{h':Heap}(I:Inv X pins τ H s)(f:gx X pins H C)(sb:Heap.SameBut C s.heap h'):Inv X pins τ H { s with heap:=h' }:=by
 obtain⟨f0,f1,f2,f3,f4,f5⟩:=f
 have k:∀b u,b≠C→s.heap.get? b=some u→h'.get? b=some u:=fun b u hb e=>(sb.2 b hb).trans e
 refine I.call' (ch:=[C]) rfl ⟨fun b o e _ _ hc=>k b o (by simpa using hc) e,fun b o e _ _ hc=>⟨o.slots,k b o (by simpa using hc) e⟩,fun _ _ _ n _=>n,fun b o e hc=>⟨o,k b o (by simpa using hc) e⟩,fun _ _ q=>q,fun _ _ _ q=>q,fun _ ps q=>⟨#[],by rw[q];simp⟩⟩ (fun a o e=>?_) I.bare fun b hb=>?_
 ·refine(I.hok a o e).stay (fun b u hb q=>k b u (fun z=>?_) q) (fun _ q=>q) fun _ _ q=>q
  subst z
  rcases hb with rfl|hb
  ·rw[e]at f0;cases f0
  ·rw[hb]at f0;cases f0
 ·have:b=C:=by simpa using hb
  subst this
  exact⟨f3,f1,f4,f5⟩
structure BlkOk (X:Cx) (tg elt:Expr) (scope:Scope) (cl:List (Str×Addr)) (N:List Str) (k:Nat) (ix:List Nat) (g:DG) (de:DE):Prop where
 O:CompOk X scope cl N k ix
 calm:X.calm=true
 hg:∀(pins:List (Addr×Obj))(fp:List Addr)(C:Addr)(s:Shared)(H A B:Hp),QG (cxC X pins scope cl C N fp s H) A B tg g
 he:∀(pins:List (Addr×Obj))(fp:List Addr)(C:Addr)(s:Shared)(H A B:Hp),QE (cxC X pins scope cl C N fp s H) A B elt de
 gk:∀σ p σ1,g p (inn k ix σ)=.ok σ1→(∀(j:Nat)(sv:SV),(inn k ix σ)[j]? = some (some sv)→σ1[j]? = some (some sv))∧σ1.length=(inn k ix σ).length
theorem blk{E:Value→Shared→Prop}{Hs2 H2:Hp}{s2:Shared}{it:Addr}{fp:List Addr}{tn:Nat→Heap→Prop}{J:It}{ps qs:List PV}{RR:Value→Addr→Result→Shared→Prop}
  (B:BlkOk X tg elt scope cl N k ix g de) (I2:Inv X pins τ H2 s2) (S2:SR X.K H0 Hs0 Hs2 H2 σ τ) (T:Turn X.prog X.w X.K tg J fp it tn) (st:tn 0 s2.heap) (fpok:∀b∈fp,gx X pins H2 b) (jok:JOk X.K J Hs2 ps)
  (hm:mapR (dW g de (inn k ix σ)) ps=.ok qs) (hl:qs.length≤10000000)
  (hR:∀(s':Shared)(Hs' H':Hp)(vs:List V)(D C:Addr)(m:Str→Option Value),Inv X pins τ H' s'→SR X.K H0 Hs0 Hs' H' σ τ→bc Hs2 Hs'→Grow Hs2 H2 Hs' H'→H' D=some (.lst vs)→Hs' D=none→H2 D=none→Reps X.K Hs' vs qs→s'.heap.Ns C m →
   gx X pins H' C→RR (.ref D) C (.ok .next) s'):
  wpAny (model X.prog X.w) X.A (newList []) (fun acc s3=>wpAny (model X.prog X.w) X.A (newFunctionEnv scope X.env.globals cl [] X.env.qual none .none (some X.env)) (fun cenv s4=>
   codeAny (model X.prog X.w) X.A (.compStart (.ListComp elt [⟨tg,iter,[],0⟩] scope pos) 0 (.ref it) acc { cenv with scope:=relabel scope X.env }) (RR acc cenv.locals) s4) E s3) E s2:=by
 refine wpAny_newObj_type (wpAny_newFunctionEnv B.O.nocell (by intro y hy;simp at hy) (fun h1 hns1 hsb1=>?_) B.O.kind)
 dsimp only at hns1 hsb1 ⊢
 have hsz:(s2.heap.push { cls:=.type "list",dict:=none,data:=.seq ([]:List Value).toArray }).objs.size=s2.heap.objs.size+1:=Heap.size_push ..
 rw[hsz]at hns1 hsb1 ⊢
 refine xA (t4:=s2.toks+0) I2 S2 B.O B.calm T st fpok jok (B.hg pins fp) (B.he pins fp) (B.gk σ) hm hl hns1 (fun b o e=>?_) (fun s' Hs' H' vs m I' S' e' gr h1' h2' h3' h4' h5' h6'=>?_)
 ·exact hsb1.extBut b o (Nat.ne_of_lt (by have:=Heap.lt_size e;rw[hsz]at this;exact this)) (Heap.get?_push_of_some _ e)
 ·exact hR s' Hs' H' vs _ _ m I' S' e' gr h1' h2' h3' h4' h5' (I2.fpOk (Nat.le_succ _) h6')
theorem cB{Hs:Hp}{D:Addr}{o:HO}(h:Hs D=none):bc Hs (upd Hs D o):=fun b u e=>by rw[aR (bD e h)];exact e
theorem Grow.lay{Hs H Hs' H':Hp}{D:Addr}{o:HO}(g:Grow Hs H Hs' H')(h1:H' D=some o)(h2:Hs' D=none)(h3:H D=none):Grow Hs H (upd Hs' D o) H':=
 ⟨g.s.trans (cB h2),fun b u e=>by
  by_cases hb:b=D
  ·subst hb;rw[aC]at e;cases e;exact h1
  ·rw[aR hb]at e;exact g.i b u e,g.h,fun x hx hn=>by
  have:x≠D:=fun z=>hx (z▸h3)
  rw[aR this];exact g.o x hx hn⟩
theorem tu{r:Res (List PV)}{f:List PV→Res (List PV)}{EO:Str→Prop}{K:PySem.W.Frag}{Hs H:Hp}{Q:VK}(h:Ret K Hs H ((r.bind f).bind fun qs=>.ok (.lst qs)) EO Q):(∃c,r=.err c∧EO c)∨∃ps,r=.ok ps∧Ret K Hs H ((f ps).bind fun qs=>.ok (.lst qs)) EO Q:=by
 cases r with
 |ok ps=>exact .inr ⟨ps,rfl,h⟩
 |err c=>exact .inl ⟨c,rfl,h⟩
 |stuck=>exact h.elim
theorem yN(B:BlkOk X tg elt scope cl N k ix g de)(hi:QI X H0 Hs0 tg iter d)(hs:∀x,foldedSetIterable iter X.env x=pure x):
  QE X H0 Hs0 (.ListComp elt [⟨tg,iter,[],0⟩] scope pos) (c6 d g de k ix):=by
 intro pins s τ H Q I ⟨Hs,σ,S,h⟩
 rw[eval_ListComp]
 have h0:wpAny (model X.prog X.w) X.A (eval iter X.env) (fun v s1=>wpAny (model X.prog X.w) X.A (pyIter v) (PIE X pins τ tg fun J H2=>∃Hs2 ps qs,Grow Hs H Hs2 H2∧JOk X.K J Hs2 ps∧mapR (dW g de (inn k ix σ)) ps=.ok qs∧qs.length≤10000000∧Ret X.K Hs H (.ok (.lst qs)) (bI X H0 Hs0) Q) X.xe s1) X.xe s:=by
  refine hi pins s τ H _ I ⟨Hs,σ,S,?_⟩
  rcases tu h with ⟨c,e,ec⟩|⟨ps,e,h1⟩
  ·rw[e];exact ec
  ·rw[e]
   intro J Hs2 H2 g2 j2
   cases em:mapR (dW g de (inn k ix σ)) ps with
   |ok qs=>
    simp only[em]at h1
    by_cases hl:qs.length≤10000000
    ·rw[if_pos hl]at h1
     exact⟨Hs2,ps,qs,g2,j2,em,hl,h1⟩
    ·rw[if_neg hl]at h1
     exact h1.elim
   |err c=>simp only[em]at h1;exact h1.elim
   |stuck=>simp only[em]at h1;exact h1.elim
 refine wpAny_comprehension_free (use:=none) rfl hs (jG B.O.clos) B.O.kind B.O.names (wpAny_mono h0 (fun v s1 h1=>wpAny_mono h1 (fun itv s2 h2=>?_) fun _ _ e=>e) fun _ _ e=>e)
 obtain⟨it,fp,tn,J,H2,rfl,I2,T,st,fpok,Hs2,ps,qs,g2,jok,hm,hl,hq⟩:=h2
 refine blk B I2 (S.grow g2) T st fpok jok hm hl fun s' Hs' H' vs D C m I' S' e' gr h1 h2 h3 h4 h5 h6=>?_
 refine⟨m,h5,fun h' sb=>⟨.ref D,H',kK I' h6 sb,rfl,?_⟩⟩
 exact hq (.ref D) (upd Hs' D (.lst vs)) H' ((g2.trans gr).lay h1 h2 (g2.h.free h3)) (.lst aC (h4.mono (cB h2)))
theorem pU{i:Nat}{x:Str}{pos' spos:Pos}{ds:DS}(B:BlkOk X tg elt scope cl N k ix g de)(hi:QI X H0 Hs0 tg iter d)(hs:∀x,foldedSetIterable iter X.env x=pure x)
  (hN:X.N.Nodup) (hiN:X.N[i]? = some x) (hx:Loc X.env.scope x) (hf:X.fn x=true∨X.env.scope.names.lookup x=some .local)
  (hsw:swapsWith (.ListComp elt [⟨tg,iter,[],0⟩] scope pos) (some (.Name x pos')) spos.line X.env=pure true)
  (hd:∀D σ τ Hs H,SR X.K H0 Hs0 Hs H σ τ→gy X H0 Hs0 D Hs H (ds σ)→(∃c,d σ=.err c∧bI X H0 Hs0 c)∨∃ps,d σ=.ok ps∧∃qs,mapR (dW g de (inn k ix σ)) ps=.ok qs∧qs.length≤10000000 ∧
   ∀(Hs' H':Hp)(vs:List V)(a:Addr),SR X.K H0 Hs0 Hs' H' σ τ→Grow Hs H Hs' H'→H' a=some (.lst vs)→Hs' a=none→H a=none→Reps X.K Hs' vs qs→D.nx (τ.set i (some (.ref a))) H'):
  QS X H0 Hs0 (.Assign [.Name x pos'] (.ListComp elt [⟨tg,iter,[],0⟩] scope pos) spos) ds:=by
 intro pins s τ H D I ⟨Hs,σ,S,h⟩
 have h0:wpAny (model X.prog X.w) X.A (eval iter X.env) (fun v s1=>wpAny (model X.prog X.w) X.A (pyIter v) (PIE X pins τ tg fun J H2=>∃Hs2 ps qs,Grow Hs H Hs2 H2∧JOk X.K J Hs2 ps∧mapR (dW g de (inn k ix σ)) ps=.ok qs∧qs.length≤10000000 ∧
   ∀(Hs' H':Hp)(vs:List V)(a:Addr),SR X.K H0 Hs0 Hs' H' σ τ→Grow Hs H Hs' H'→H' a=some (.lst vs)→Hs' a=none→H a=none→Reps X.K Hs' vs qs→D.nx (τ.set i (some (.ref a))) H') X.xe s1) X.xe s:=by
  refine hi pins s τ H _ I ⟨Hs,σ,S,?_⟩
  rcases hd D σ τ Hs H S h with ⟨c,e,ec⟩|⟨ps,e,qs,em,hl,h1⟩
  ·rw[e];exact ec
  ·rw[e]
   exact fun J Hs2 H2 g2 j2=>⟨Hs2,ps,qs,g2,j2,em,hl,h1⟩
 rw[exec_Assign_Name_used _ _ _ _ hsw]
 refine wpAny_bind (wpAny_standAt (wpAny_bind ?_))
 show wpAny _ X.A (do let _ ←comprehension (.ListComp elt [⟨tg,iter,[],0⟩] scope pos) scope X.env _ (newList []) false (eval iter X.env) (some (assign (.Name x pos') X.env))) _ _ s
 refine wpAny_bind (wpAny_mono (wpAny_comprehension_free (use:=some (assign (.Name x pos') X.env)) (Q:=fun _ s'=>SP X pins D .next s') rfl hs (jG B.O.clos) B.O.kind B.O.names
  (wpAny_mono h0 (fun v s1 h1=>wpAny_mono h1 (fun itv s2 h2=>?_) fun _ _ e=>e) fun _ _ e=>e)) (fun _ s' hq=>wpAny_pure (wpAny_pure hq)) fun _ _ e=>e)
 obtain⟨it,fp,tn,J,H2,rfl,I2,T,st,fpok,Hs2,ps,qs,g2,jok,hm,hl,hq⟩:=h2
 refine blk B I2 (S.grow g2) T st fpok jok hm hl fun s' Hs' H' vs a C m I' S' e' gr h1 h2 h3 h4 h5 h6=>?_
 show wpAny _ X.A (assign (.Name x pos') X.env (.ref a)) _ _ s'
 have h5':=h5
 obtain⟨o,es,ep,ho,hdt,hrest⟩:=h5'
 have I'':=I'.pinned (fp:=[C]) (fun b hb=>by have:b=C:=(by simpa using hb);subst this;exact h6)
  (fun b hb=>by
  have:b=C:=by simpa using hb
  subst this
  exact⟨o,ho,fun v z=>by rw[hdt]at z;cases z⟩)
 refine thn (kC hN hiN hx hf _ s' τ H' (.ref a) (.ref a) (fun τ' H''=>τ'=τ.set i (some (.ref a))∧H''=H') I'' rfl ⟨rfl,rfl⟩) fun _ s'' ⟨τ',H'',I3,e1,e2⟩=>?_
 subst e1 e2
 have hC:=(I3.pin (C,o) (List.mem_append_right _ (List.mem_append_right _ (bQ (by simp) ho)))).1
 have I4:=I3.unpinned
 refine⟨m,⟨o,es,ep,hC,hdt,hrest⟩,fun h' sb=>?_⟩
 exact⟨_,_,kK I4 h6 sb,hq Hs' H'' vs a S' (g2.trans gr) h1 h2 (g2.h.free h3) h4⟩
theorem SR.ownAt{Hs H Hs' H':Hp}{σ:PSt}{τ:L2.St}{a:Addr}{vs:List V}{xs:List PV}(S:SR X.K H0 Hs0 Hs H σ τ)(g:Grow Hs H Hs' H')(i:Nat)(h1:H' a=some (.lst vs))(h2:Hs' a=none)(h3:H a=none)(r:Reps X.K Hs' vs xs):
  SR X.K H0 Hs0 Hs' H' (σ.set i (some (.own xs))) (τ.set i (some (.ref a))):=by
 have far:∀(j:Nat)(ys:List PV)(ad:Addr),σ[j]? = some (some (.own ys))→τ[j]? = some (some (.ref ad))→ad≠a:=fun j ys ad e1 e2 z=>by
  obtain⟨v,e3,a',vs',rfl,q1,_⟩:=S.slot j _ e1
  rw[e2]at e3
  cases e3
  subst z
  rw[h3]at q1;cases q1
 refine⟨S.g.trans g,fun j sv e=>?_,fun j k xs' ys' ad hjk e1 e2 e3=>?_,by rw[List.length_set,List.length_set];exact S.len⟩
 ·rcases bh e with ⟨rfl,e',hl⟩|⟨hne,e'⟩
  ·cases e'
   refine⟨.ref a,by rw[List.getElem?_set_self (by rw[←S.len];exact hl)],a,vs,rfl,h1,h2,S.g.h.free h3,r⟩
  ·obtain⟨w,e1,r1⟩:=S.slot j sv e'
   exact⟨w,by rw[List.getElem?_set_ne (fun z=>hne z.symm)];exact e1,r1.grow g⟩
 ·rcases bh e1 with ⟨rfl,e',hl⟩|⟨hj,e1'⟩
  ·rw[List.getElem?_set_self (by rw[←S.len];exact hl)]at e3
   cases e3
   rcases bh e2 with ⟨rfl,_,_⟩|⟨hk,e2'⟩
   ·exact absurd rfl hjk
   ·rw[List.getElem?_set_ne (fun z=>hk z.symm)]
    exact fun z=>far k _ _ e2' z rfl
  ·rw[List.getElem?_set_ne (fun z=>hj z.symm)]at e3
   rcases bh e2 with ⟨rfl,_,hl⟩|⟨hk,e2'⟩
   ·rw[List.getElem?_set_self (by rw[←S.len];exact hl)]
    exact fun z=>by cases z;exact far j _ _ e1' e3 rfl
   ·rw[List.getElem?_set_ne (fun z=>hk z.symm)]
    exact S.inj j k _ _ _ hjk e1' e2' e3
theorem xI{D:Ends}{Hs H:Hp}{f:List PV→Fl}{σ:PSt}(h:gy X H0 Hs0 D Hs H ((rV d g de k ix σ).bind fun qs=>.ok (f qs))):(∃c,d σ=.err c∧bI X H0 Hs0 c)∨∃ps,d σ=.ok ps∧∃qs,mapR (dW g de (inn k ix σ)) ps=.ok qs∧qs.length≤10000000∧gy X H0 Hs0 D Hs H (.ok (f qs)):=by
 unfold rV at h
 cases e:d σ with
 |err c=>rw[e]at h;exact .inl ⟨c,rfl,h⟩
 |stuck=>rw[e]at h;exact h.elim
 |ok ps=>
  rw[e]at h
  refine .inr ⟨ps,rfl,?_⟩
  cases em:mapR (dW g de (inn k ix σ)) ps with
  |ok qs=>
   simp only[Res.bind_ok,em]at h
   by_cases hl:qs.length≤10000000
   ·rw[if_pos hl]at h
    exact⟨qs,rfl,hl,h⟩
   ·rw[if_neg hl]at h
    exact h.elim
  |err c=>simp only[Res.bind_ok,em]at h;exact h.elim
  |stuck=>simp only[Res.bind_ok,em]at h;exact h.elim
variable {i:Nat}{x:Str}{pos' spos:Pos}
theorem yI(B:BlkOk X tg elt scope cl N k ix g de)(hi:QI X H0 Hs0 tg iter d)(hs:∀x,foldedSetIterable iter X.env x=pure x)
  (hN:X.N.Nodup) (hiN:X.N[i]? = some x) (hx:Loc X.env.scope x) (hf:X.fn x=true∨X.env.scope.names.lookup x=some .local)
  (hsw:swapsWith (.ListComp elt [⟨tg,iter,[],0⟩] scope pos) (some (.Name x pos')) spos.line X.env=pure true):
  QS X H0 Hs0 (.Assign [.Name x pos'] (.ListComp elt [⟨tg,iter,[],0⟩] scope pos) spos) (eT i d g de k ix):=
 pU B hi hs hN hiN hx hf hsw fun D σ τ Hs H S h=>(xI h).imp id fun ⟨ps,e,qs,em,hl,q⟩=>⟨ps,e,qs,em,hl,fun Hs' H' vs a S' gr h1 h2 h3 h4=>
  q (upd Hs' a (.lst vs)) H' _ (gr.s.trans (cB h2)) ((S.grow (gr.lay h1 h2 h3)).set i (.lst aC (h4.mono (cB h2))))⟩
theorem vJ(B:BlkOk X tg elt scope cl N k ix g de)(hi:QI X H0 Hs0 tg iter d)(hs:∀x,foldedSetIterable iter X.env x=pure x)
  (hN:X.N.Nodup) (hiN:X.N[i]? = some x) (hx:Loc X.env.scope x) (hf:X.fn x=true∨X.env.scope.names.lookup x=some .local)
  (hsw:swapsWith (.ListComp elt [⟨tg,iter,[],0⟩] scope pos) (some (.Name x pos')) spos.line X.env=pure true):
  QS X H0 Hs0 (.Assign [.Name x pos'] (.ListComp elt [⟨tg,iter,[],0⟩] scope pos) spos) (gH i d g de k ix):=
 pU B hi hs hN hiN hx hf hsw fun D σ τ Hs H S h=>(xI h).imp id fun ⟨ps,e,qs,em,hl,q⟩=>⟨ps,e,qs,em,hl,fun Hs' H' vs a S' gr h1 h2 h3 h4=>
  q Hs' H' _ gr.s (S.ownAt gr i h1 h2 h3 h4)⟩
end
end G
namespace G
open PySem PySem.Spec PyProof.Rows L2
theorem j8{cells:List (Str×Addr)}{x:Str}:∀(names:List (Str×NameKind))(acc cl:List (Str×Addr)),dX cells names acc=some cl→((x,.free)∈names∨∃c,acc.lookup x=some c)→∃c,cl.lookup x=some c
 |[],acc,cl,h,hx=>by
  have:acc=cl:=Option.some.inj h
  subst this
  exact hx.elim (fun z=>by cases z) id
 | (n,k)::r,acc,cl,h,hx=>by
  unfold dX at h
  split at h
  ·rename_i hk
   split at h
   ·rename_i a hn
    refine j8 r _ cl h ?_
    rcases hx with hx|⟨c,hx⟩
    ·rcases List.mem_cons.mp hx with e|hx
     ·cases e
      exact .inr ⟨a,by simp[List.lookup_cons]⟩
     ·exact .inl hx
    ·refine .inr ?_
     rw[List.lookup_cons]
     split
     ·exact⟨a,rfl⟩
     ·exact⟨c,hx⟩
   ·cases h
  ·rename_i hk
   refine j8 r acc cl h ?_
   rcases hx with hx|hx
   ·rcases List.mem_cons.mp hx with e|hx
    ·cases e
     exact absurd rfl hk
    ·exact .inl hx
   ·exact .inr hx
theorem kj{x:Str}{q:NameKind}:∀{names:List (Str×NameKind)},names.lookup x=some q→(x,q)∈names
 |[],h=>by simp at h
 | (n,k)::r,h=>by
  rw[List.lookup_cons]at h
  split at h
  ·rename_i hb
   have:x=n:=by simpa using hb
   subst this
   cases h
   exact List.mem_cons_self
  ·exact List.mem_cons_of_mem _ (kj h)
theorem kh{scope:Scope}{env:Env}{x:Str}{q:NameKind}(h:(relabel scope env).names.lookup x=some q):∃k,(x,k)∈scope.names∧(q=k∨k=.free):=by
 have:=kj h
 unfold relabel at this
 obtain⟨⟨n,k⟩,h1,h2⟩:=List.mem_map.mp this
 dsimp only at h2
 split at h2
 ·rename_i hc
  cases h2
  simp only[Bool.and_eq_true,beq_iff_eq]at hc
  exact⟨k,h1,.inr hc.1.1⟩
 ·cases h2
  exact⟨_,h1,.inl rfl⟩
theorem jr{env:Env}{x:Str}:∀{names:List (Str×NameKind)},names.lookup x=some .free→env.scope.kind=.function→env.kindOf x=some .cell →
  (names.map fun (n,k)=>if (k==NameKind.free&&env.scope.kind==.function&&env.kindOf n==some .cell) then (n,NameKind.cell) else (n,k)).lookup x=some .cell
 |[],h,_,_=>by simp at h
 | (n,k)::r,h,h1,h2=>by
  have ih:=@jr env x r
  rw[List.lookup_cons]at h
  rw[List.map_cons]
  dsimp only
  split at h
  ·rename_i hb
   have:x=n:=by simpa using hb
   subst this
   cases h
   rw[if_pos (by simp[h1,h2])]
   simp[List.lookup_cons]
  ·rename_i hb
   split
   ·rw[List.lookup_cons,hb];exact ih h h1 h2
   ·rw[List.lookup_cons,hb];exact ih h h1 h2
inductive CapOk (X:Cx) (scope:Scope):List Nat→List Str→Prop
 |nil:CapOk X scope [] []
 |cons {i:Nat} {x:Str} {ix:List Nat} {xs:List Str}:X.N[i]? = some x→X.env.kindOf x=some .cell→scope.names.lookup x=some .free→CapOk X scope ix xs→CapOk X scope (i::ix) (x::xs)
theorem iP{X:Cx}{scope:Scope}:CapOk X scope [] []:=.nil
theorem cap{X:Cx}{scope:Scope}{ix:List Nat}{xs:List Str}(i:Nat)(x:Str)(c:CapOk X scope ix xs)(h1:X.N[i]? = some x:=by rfl)(h2:X.env.kindOf x=some .cell:=by rfl)(h3:scope.names.lookup x=some .free:=by rfl):CapOk X scope (i::ix) (x::xs):=.cons h1 h2 h3 c
theorem CapOk.len{X:Cx}{scope:Scope}{ix:List Nat}{xs:List Str}(c:CapOk X scope ix xs):xs.length=ix.length:=by
 induction c with
 |nil=>rfl
 |cons _ _ _ _ ih=>rw[List.length_cons,List.length_cons,ih]
theorem CapOk.at'{X:Cx}{scope:Scope}{ix:List Nat}{xs:List Str}(c:CapOk X scope ix xs):∀(j i:Nat)(x:Str),ix[j]? = some i→xs[j]? = some x→X.N[i]? = some x∧X.env.kindOf x=some .cell∧scope.names.lookup x=some .free:=by
 induction c with
 |nil=>intro j i x h;simp at h
 |cons h1 h2 h3 _ ih=>
  intro j i x e1 e2
  cases j with
  |zero=>simp at e1 e2;subst e1 e2;exact⟨h1,h2,h3⟩
  |succ j=>exact ih j i x (by simpa using e1) (by simpa using e2)
def je(X:Cx)(scope:Scope):List (Str×Addr):=(dX X.env.cells scope.names []).getD []
def jn(scope:Scope):Prop:=(∀y∈scope.names,y.2≠.cell)∧(∀y∈scope.names,y.2=.local→scope.names.lookup y.1=some .local)
instance {scope:Scope}:Decidable (jn scope):=by unfold jn;exact inferInstance
theorem xB{X:Cx}{scope:Scope}{own xs:List Str}{ix:List Nat}(hk:scope.kind=.function)(hs:jn scope)(hX:X.env.scope.kind=.function)(hc:(dX X.env.cells scope.names []).isSome=true)(hn:(own++xs).Nodup)(c:CapOk X scope ix xs):CompOk X scope (je X scope) (own++xs) own.length ix:=by
 have hcl:dX X.env.cells scope.names []=some (je X scope):=by
  unfold je
  cases e:dX X.env.cells scope.names [] with
  |none=>rw[e]at hc;cases hc
  |some cl=>rfl
 refine⟨hk,hs.1,hs.2,hcl,fun x hx=>?_,hn,by rw[List.length_append,c.len],fun j i x e1 e2=>?_⟩
 ·have:(x,NameKind.free)∈scope.names:=by
   rcases hx with hx|hx
   ·obtain⟨k,h1,h2⟩:=kh hx
    rcases h2 with rfl|rfl
    ·exact absurd rfl (hs.1 _ h1)
    ·exact h1
   ·obtain⟨k,h1,h2⟩:=kh hx
    rcases h2 with rfl|rfl<;>exact h1
  exact j8 _ _ _ hcl (.inl this)
 ·rw[List.getElem?_append_right (Nat.le_add_right _ _),Nat.add_sub_cancel_left]at e2
  obtain⟨a1,a2,a3⟩:=c.at' j i x e1 e2
  exact⟨a1,a2,.inl (jr a3 hX a2)⟩
structure GK (k:Nat) (g:DG):Prop where
 h:∀(ix:List Nat)(σ:PSt)(p:PV)(σ1:PSt),g p (inn k ix σ)=.ok σ1→(∀(j:Nat)(sv:SV),(inn k ix σ)[j]? = some (some sv)→σ1[j]? = some (some sv))∧σ1.length=(inn k ix σ).length
theorem sQ{k i:Nat}{ix:List Nat}{σ:PSt}(h:i<k){sv:SV}:(inn k ix σ)[i]?≠some (some sv):=fun e=>by
 obtain⟨_,_,h1,_⟩:=kL e
 omega
theorem j5{k i:Nat}(h:i<k:=by decide):GK k (gN i):=⟨fun ix σ p σ1 e=>by
 have e:σ1=(inn k ix σ).set i (some (.sh p)):=by
  unfold gN at e
  first | (injection e with e; exact e.symm) | (cases e; rfl)
 subst e
 refine⟨fun j sv hj=>?_,List.length_set⟩
 rw[List.getElem?_set_ne (fun z=>sQ (h) (z▸hj))]
 exact hj⟩
section
variable {X:Cx}{H0 Hs0:Hp}{tg elt iter:Expr}{scope:Scope}{pos:Pos}{g:DG}{de:DE}{d:DI}{ix:List Nat}{xs:List Str}
theorem jM(own:List Str)(c:CapOk X scope ix xs)(k:GK own.length g)(hg:∀(pins:List (Addr×Obj))(fp:List Addr)(C:Addr)(s:Shared)(H A B:Hp),(cxC X pins scope (je X scope) C (own++xs) fp s H).N.Nodup→XG (cxC X pins scope (je X scope) C (own++xs) fp s H) A B tg g)
  (he:∀(pins:List (Addr×Obj))(fp:List Addr)(C:Addr)(s:Shared)(H A B:Hp),(cxC X pins scope (je X scope) C (own++xs) fp s H).N.Nodup→XE (cxC X pins scope (je X scope) C (own++xs) fp s H) A B elt de)
  (hk:scope.kind=.function:=by rfl) (hs:jn scope:=by decide +kernel) (hX:X.env.scope.kind=.function:=by rfl) (hc:(dX X.env.cells scope.names []).isSome=true:=by rfl) (hn:(own++xs).Nodup:=by decide) (hcalm:X.calm=true:=by rfl):
  BlkOk X tg elt scope (je X scope) (own++xs) own.length ix g de:=
 ⟨xB hk hs hX hc hn c,hcalm,fun pins fp C s H A B=>(hg pins fp C s H A B hn).h,fun pins fp C s H A B=>(he pins fp C s H A B hn).h,fun σ p σ1 e=>k.h ix σ p σ1 e⟩
theorem mS{cl:List (Str×Addr)}{N:List Str}{k:Nat}(B:BlkOk X tg elt scope cl N k ix g de)(hi:XI X H0 Hs0 tg iter d)(hs:gq iter=true:=by rfl):XE X H0 Hs0 (.ListComp elt [⟨tg,iter,[],0⟩] scope pos) (c6 d g de k ix):=⟨yN B hi.h (ir hs)⟩
theorem kX(i:Nat){x:Str}{pos' spos:Pos}{cl:List (Str×Addr)}{N:List Str}{k:Nat}(B:BlkOk X tg elt scope cl N k ix g de)(hi:XI X H0 Hs0 tg iter d)(hN:X.N.Nodup:=by assumption)(hiN:X.N[i]? = some x:=by rfl)(hx:Loc X.env.scope x:=by first|exact Or.inl rfl|exact Or.inr rfl)
  (hf:X.fn x=true∨X.env.scope.names.lookup x=some .local:=by first|exact Or.inl rfl|exact Or.inr rfl) (hs:gq iter=true:=by rfl)
  (hsw:swapsWith (.ListComp elt [⟨tg,iter,[],0⟩] scope pos) (some (.Name x pos')) spos.line X.env=pure true:=by rfl):
  XS X H0 Hs0 (.Assign [.Name x pos'] (.ListComp elt [⟨tg,iter,[],0⟩] scope pos) spos) (eT i d g de k ix):=⟨yI B hi.h (ir hs) hN hiN hx hf hsw⟩
theorem sd(i:Nat){x:Str}{pos' spos:Pos}{cl:List (Str×Addr)}{N:List Str}{k:Nat}(B:BlkOk X tg elt scope cl N k ix g de)(hi:XI X H0 Hs0 tg iter d)(hN:X.N.Nodup:=by assumption)(hiN:X.N[i]? = some x:=by rfl)(hx:Loc X.env.scope x:=by first|exact Or.inl rfl|exact Or.inr rfl)
  (hf:X.fn x=true∨X.env.scope.names.lookup x=some .local:=by first|exact Or.inl rfl|exact Or.inr rfl) (hs:gq iter=true:=by rfl)
  (hsw:swapsWith (.ListComp elt [⟨tg,iter,[],0⟩] scope pos) (some (.Name x pos')) spos.line X.env=pure true:=by rfl):
  XS X H0 Hs0 (.Assign [.Name x pos'] (.ListComp elt [⟨tg,iter,[],0⟩] scope pos) spos) (gH i d g de k ix):=⟨vJ B hi.h (ir hs) hN hiN hx hf hsw⟩
theorem CU(i:Nat){x:Str}{pos':Pos}{a:Expr}{da:DE}(ha:XE X H0 Hs0 a da)(hN:X.N.Nodup:=by assumption)(hi:X.N[i]? = some x:=by rfl)(hx:Loc X.env.scope x:=by first|exact Or.inl rfl|exact Or.inr rfl)(hs:swapsWith a (some (.Name x pos')) pos.line X.env=pure false:=by rfl)
  (hf:X.fn x=true∨X.env.scope.names.lookup x=some .local:=by first|exact Or.inl rfl|exact Or.inr rfl):XS X H0 Hs0 (.Assign [.Name x pos'] a pos) (av i da):=⟨vI hN hi hx ha.h hs hf⟩
end
end G
namespace G
open PySem PySem.Spec PyProof.Rows L2
section
variable {P:Program}{w:World}{K:PySem.W.Frag}{mg:Str→Option Value}{base:Heap}{N:List Str}{qual:Str}{scope:Scope}{f:Addr}{cd:Value}{A:Around}{outer:List Env}{s:Shared}{H Hs:Hp}{E:XK}{c:Str}
end
structure ExcAt (K:PySem.W.Frag) (x:Str):Prop where
 ex:∃C:Addr,dQ K x C∧PySem.W.excIn K C [.type "ValueError",.type "Exception",.type "BaseException",.type "object"] "ValueError.__new__" = true
section
variable {X:Cx}{H0 Hs0:Hp}{x t:Str}{pos np cpos cp:Pos}{j}
end
end G
namespace G
open PySem PySem.Spec PyProof.Rows L2
section
variable {X:Cx}{pins:List (Addr×Obj)}{H0 Hs0 Hs H:Hp}{σ:PSt}{τ:L2.St}{s:Shared}
end
end G
namespace G
open PySem PySem.Spec PyProof.Rows L2
@[reducible] def cxM(X:Cx)(ea:Addr):Cx:={ X with A:=X.A.mark (some (.ref ea)),calm:=false,xe:=fun _ _=>False }
section
variable {X:Cx}{pins:List (Addr×Obj)}{H0 Hs0 Hs H:Hp}{σ:PSt}{τ:L2.St}{s:Shared}{ea:Addr}
end
structure Caught (K:PySem.W.Frag) (g:Str) (cs:List Str):Prop where
 h:∀c∈cs,∃(G C:Addr),dQ K g G∧dQ K c C∧PySem.W.exmOne K (.ref C) (.ref G)=some true
section
variable {X:Cx}{H0 Hs0:Hp}
end
end G
namespace G
open PySem PySem.Spec PyProof.Rows L2
section
open PySem.W PySem.Calls Builtin Builtin.ObjectAttr Builtin.Getset_descriptor
variable {prog:Program}{w:World}{A:Around}{s:Shared}{K:Frag}{x C:Addr}{R:Result→Shared→Prop}
end
section
variable {prog:Program}{w:World}{A:Around}{E:Value→Shared→Prop}{s:Shared}{K:PySem.W.Frag}{x C:Addr}{ox:Obj}
end
end G
namespace G
open PySem PySem.Spec PyProof.Rows L2
open PySem.W (clsIn findIn specialIn takesIn mroIn kitOne kitAny KitX Looks)
def Eb (K:PySem.W.Frag) (C:Addr):Bool:=(clsIn K C).isSome&&findIn K (.ref C) "__getattribute__" == some (some (.builtin "BaseException.__getattribute__"))&&findIn K (.ref C) "__getattr__" == some none
 && findIn K (.ref C) "__class__" == some (some (.builtin "object.__class__"))&&specialIn K (.builtin "object.__class__") "__get__" == some (some (.builtin "getset_descriptor.__get__"))&&takesIn K (.builtin "object.__class__")==some true
 && mroIn K C (.type "object")==some true&&mroIn K C (.type "BaseException")==some true
structure IsTab (K:PySem.W.Frag) (t:List Value) (tab:List (Str×Bool)):Prop where
 non:kitAny K (.type "NoneType") t=some false
 exc:∀c b,tab.lookup c=some b→∃C:Addr,dQ K c C∧Eb K C=true∧kitAny K (.ref C) t=some b
section
variable {X:Cx}{pins:List (Addr×Obj)}{τ:L2.St}{Hs H:Hp}{s:Shared}{Q:Value→Shared→Prop}{E:Value→Shared→Prop}{x:V}{u:Value}{p:PV}{tab:List (Str×Bool)}{b:Bool}
end
section
variable {X:Cx}{H0 Hs0:Hp}{a:Expr}{da:DE}{pos p1 p2:Pos}{tab:List (Str×Bool)}
inductive ClsL (K:PySem.W.Frag):List Str→List Addr→Prop
 |nil:ClsL K [] []
 |cons {x:Str} {C:Addr} {xs:List Str} {Cs:List Addr}:dQ K x C→ClsL K xs Cs→ClsL K (x::xs) (C::Cs)
end
end G
namespace G
open PySem PySem.Spec PyProof.Rows L2
open PySem.W (kitAny)
section
variable {P:Program}{w:World}{K:PySem.W.Frag}{mg:Str→Option Value}{base h:Heap}
end
section
variable {K:PySem.W.Frag}{x g c:Str}{C G:Addr}
structure IsOwn (K:PySem.W.Frag) (g:Str) (tab:List (Str×Bool)):Prop where
 ex:∃G:Addr,dQ K g G∧IsTab K [.ref G] tab
structure IsMany (K:PySem.W.Frag) (gs:List Str) (tab:List (Str×Bool)):Prop where
 ex:∃Cs:List Addr,ClsL K gs Cs∧IsTab K (Cs.map Value.ref) tab
end
section
variable {X:Cx}{H0 Hs0:Hp}{a:Expr}{da:DE}{es:List Expr}{ra:DA}{pos p1 p2 p:Pos}{tab:List (Str×Bool)}{x g t:Str}
end
end G
namespace G
open PySem PySem.Spec PyProof.Rows L2
section
variable {g:PV→PV→Res PV}{h:PV→Res PV}{a b:DE}{r:DA}{σ:PSt}{s t:DT}{c d:DS}{i j:Int}
@[simp] theorem ar{α β:Type}(x:α)(f:α→Res β):(Res.ok x).bind f=f x:=rfl
@[simp] theorem qw:e2 g a b σ=(a σ).bind fun p=>(b σ).bind fun q=>g p q:=rfl
@[simp] theorem Ed:e1 h a σ=(a σ).bind h:=rfl
@[simp] theorem oW{p:PV}:eC p σ=.ok p:=rfl
@[simp] theorem oX{f:List PV→Res PV}:eA f r σ=(r σ).bind f:=rfl
@[simp] theorem fh:aj σ=.ok []:=rfl
@[simp] theorem dr:aa a r σ=(a σ).bind fun p=>(r σ).bind fun ps=>.ok (p::ps):=rfl
@[simp] theorem Gb:rR a b σ=(a σ).bind fun p=>(asB p).bind fun c=>if c=true then b σ else .ok (.bl false):=rfl
@[simp] theorem Gs:eOr a b σ=(a σ).bind fun p=>(asB p).bind fun c=>if c=true then .ok (.bl true) else b σ:=rfl
@[simp] theorem qI{k:Bool}:asB (.bl k)=.ok k:=rfl
@[simp] theorem Fo{k:Bool}:zd (.bl k)=.ok (.bl (!k)):=rfl
@[simp] theorem vf:tV a σ=(a σ).bind asB:=rfl
@[simp] theorem AM:G.nM s t σ=(s σ).bind fun c=>if c=true then t σ else .ok false:=rfl
@[simp] theorem Gi:G.tOr s t σ=(s σ).bind fun c=>if c=true then .ok true else t σ:=rfl
@[simp] theorem AK:G.eS s σ=(s σ).bind fun c=>.ok (!c):=rfl
@[simp] theorem Fz:aS (.int i) (.int j)=.ok (.int (i+j)):=rfl
@[simp] theorem v7:a7 (.int i) (.int j)=.ok (.int (i-j)):=rfl
theorem oh(h:IntMulOk i j):ay (.int i) (.int j)=.ok (.int (i*j)):=if_pos h
theorem dj(h:j≠0)(h':Builtin.Int.intBits j≤9000):bC (.int i) (.int j)=.ok (.int (i.fdiv j)):=if_pos ⟨h,h'⟩
theorem oi(h:j≠0):bU (.int i) (.int j)=.ok (.int (i.fmod j)):=if_pos h
theorem BI(h:0≤j)(h':j≤1000000)(h'':i.natAbs<2 ^ 64):uk (.int i) (.int j)=.ok (.int (i ^ j.toNat)):=if_pos ⟨h,h',h''⟩
@[simp] theorem wc:jV (.int i)=.ok (.int (-i)):=rfl
@[simp] theorem BJ{f:Int→Int→Bool}:cy f (.int i) (.int j)=.ok (.bl (f i j)):=rfl
@[simp] theorem DM{p:PV}:oj p .non=.ok (.bl (!nk p)):=rfl
@[simp] theorem sC:pEq (.int i) (.int j)=.ok (.bl (decide (i=j))):=by
 show Res.ok (PV.bl (peq (.int i) (.int j)))=_
 rw[show peq (.int i) (.int j)=(i==j) by rw[peq],Bool.beq_eq_decide_eq]
@[simp] theorem Gm:pNe (.int i) (.int j)=.ok (.bl (!decide (i=j))):=by
 show Res.ok (PV.bl (!peq (.int i) (.int j)))=_
 rw[show peq (.int i) (.int j)=(i==j) by rw[peq],Bool.beq_eq_decide_eq]
@[simp] theorem Gr{i j:Bool}:pEq (.bl i) (.bl j)=.ok (.bl (decide (i=j))):=by
 show Res.ok (PV.bl (peq (.bl i) (.bl j)))=_
 rw[show peq (.bl i) (.bl j)=(i==j) by rw[peq],Bool.beq_eq_decide_eq]
@[simp] theorem Gn{i j:Bool}:pNe (.bl i) (.bl j)=.ok (.bl (!decide (i=j))):=by
 show Res.ok (PV.bl (!peq (.bl i) (.bl j)))=_
 rw[show peq (.bl i) (.bl j)=(i==j) by rw[peq],Bool.beq_eq_decide_eq]
@[simp] theorem Ft{T:String}:jX T .non=.ok (.bl (fO (tyName .non) T)):=rfl
@[simp] theorem Fy{T:String}{x:Bool}:jX T (.bl x)=.ok (.bl (fO (tyName (.bl x)) T)):=rfl
@[simp] theorem Fv{T:String}{x:Int}:jX T (.int x)=.ok (.bl (fO (tyName (.int x)) T)):=rfl
@[simp] theorem Fs{T:String}{x:Str}:jX T (.str x)=.ok (.bl (fO (tyName (.str x)) T)):=rfl
@[simp] theorem Fq{T:String}{x:List PV}:jX T (.tup x)=.ok (.bl (fO (tyName (.tup x)) T)):=rfl
@[simp] theorem Fu{T:String}{x:List PV}:jX T (.lst x)=.ok (.bl (fO (tyName (.lst x)) T)):=rfl
@[simp] theorem Fx{T:String}{x:List Int}:jX T (.scr x)=.ok (.bl (fO (tyName (.scr x)) T)):=rfl
@[simp] theorem Fw{T:String}:jX T .dic=.ok (.bl (fO (tyName .dic) T)):=rfl
@[simp] theorem Ge:xR [.int i]=.ok (.int (if i<0 then -i else i)):=rfl
@[simp] theorem xQ:rY [.int i,.int j]=.ok (.int (if j>i then j else i)):=rfl
@[simp] theorem xP:rX [.int i,.int j]=.ok (.int (if j<i then j else i)):=rfl
@[simp] theorem fX{p:PV}:noErr (.ok p)=.ok p:=rfl
@[simp] theorem Ek:aQ σ=.ok (.next σ):=rfl
@[simp] theorem bJ:ao c d σ=(c σ).bind fun f=>match f with
 |.next σ'=>d σ'
 |f=>.ok f:=rfl
@[simp] theorem vo:aJ a σ=(a σ).bind fun p=>.ok (.ret p):=rfl
@[simp] theorem sq:sIf t c d σ=(t σ).bind fun k=>if k=true then c σ else d σ:=rfl
@[simp] theorem i5{k:Nat}:av k a σ=(a σ).bind fun p=>.ok (.next (σ.set k (some (.sh p)))):=rfl
@[simp] theorem gE{it:DI}{gg:DG}:dZ it gg c σ=(it σ).bind fun ps=>cO gg c ps σ:=rfl
@[simp] theorem sM:itE a σ=(a σ).bind xV:=rfl
@[simp] theorem wQ{f:List PV→Res (List PV)}:itR f r σ=(r σ).bind f:=rfl
@[simp] theorem DV:oNo σ=.ok none:=rfl
@[simp] theorem FA:oE a σ=(a σ).bind asI:=rfl
@[simp] theorem Eh:asI (.int i)=.ok (some i):=rfl
@[simp] theorem Ec{lo hi:DO}:eSl a lo hi σ=(a σ).bind fun p=>(lo σ).bind fun l=>(hi σ).bind fun h=>pSl p l h:=rfl
@[simp] theorem D9{gg:DG}:cO gg c [] σ=.ok (.next σ):=rfl
theorem aX{gg:DG}{p:PV}{ps:List PV}{σ1:PSt}(h:gg p σ=.ok σ1):cO gg c (p::ps) σ=(c σ1).bind fun f=>match f with
   |.next σ'=>cO gg c ps σ'
   |.cont σ'=>cO gg c ps σ'
   |.brk σ'=>.ok (.next σ')
   |.ret p=>.ok (.ret p):=by
 show(match gg p σ with | .ok σ1=>_|_=>_)=_
 rw[h]
 all_goals rfl
@[simp] theorem Fm{p q:PV}:cN [p,q]=.ok (.tup [p,q]):=rfl
@[simp] theorem Fj{p q r:PV}:cN [p,q,r]=.ok (.tup [p,q,r]):=rfl
@[simp] theorem sX{p:PV}:fin (.ok (.ret p))=.ok p:=rfl
end
theorem pQ{m:Nat}{d:DS}{p:PV}:bH 1 m d [p]=fin (d (some (.sh p)::List.replicate (m-1) none)):=(ik rfl).trans rfl
theorem nZ{m:Nat}{d:DS}{p q:PV}:bH 2 m d [p,q]=fin (d (some (.sh p)::some (.sh q)::List.replicate (m-2) none)):=(ik rfl).trans rfl
theorem mI{m:Nat}{d:DS}{p q r:PV}:bH 3 m d [p,q,r]=fin (d (some (.sh p)::some (.sh q)::some (.sh r)::List.replicate (m-3) none)):=(ik rfl).trans rfl
theorem vq{m:Nat}{d:DS}{p q r s:PV}:bH 4 m d [p,q,r,s]=fin (d (some (.sh p)::some (.sh q)::some (.sh r)::some (.sh s)::List.replicate (m-4) none)):=(ik rfl).trans rfl
theorem Dc{m:Nat}{d:DS}{p q r s t:PV}:bH 5 m d [p,q,r,s,t]=fin (d (some (.sh p)::some (.sh q)::some (.sh r)::some (.sh s)::some (.sh t)::List.replicate (m-5) none)):=(ik rfl).trans rfl
end G
namespace G
open PySem PySem.Spec PyProof.Rows L2
theorem jz{gg:DG}{c:DS}(I:PSt→Prop)(P:PV→Prop)(h:∀p σ,P p→I σ→∃σ1 σ',gg p σ=.ok σ1∧c σ1=.ok (.next σ')∧I σ'):
  ∀(ps:List PV),(∀p∈ps,P p)→∀σ,I σ→∃σ',cO gg c ps σ=.ok (.next σ')∧I σ'
 |[],_,σ,i=>⟨σ,rfl,i⟩
 |p::ps,hp,σ,i=>by
  obtain⟨σ1,σ2,h1,h2,h3⟩:=h p σ (hp p List.mem_cons_self) i
  obtain⟨σ3,h4,h5⟩:=jz I P h ps (fun q hq=>hp q (List.mem_cons_of_mem _ hq)) σ2 h3
  refine⟨σ3,?_,h5⟩
  rw[aX h1,h2]
  exact h4
theorem lz{lo c:Int}{n:Nat}{p:PV}(h:p∈cD lo c n):∃i:Nat,i<n∧p=.int (lo+i*c):=by
 unfold cD at h
 obtain⟨i,hi,rfl⟩:=List.mem_map.mp h
 exact⟨i,List.mem_range.mp hi,rfl⟩
open Builtin.Int (intBits) in
theorem mulR{i j:Int}(h1:-(2 ^ 64)<j)(h2:j<2 ^ 64):IntMulOk i j:=.of_right (intBits_le_64 h1 h2)
open Builtin.Int (intBits) in
theorem mulL{i j:Int}(h1:-(2 ^ 64)<i)(h2:i<2 ^ 64):IntMulOk i j:=.of_left (intBits_le_64 h1 h2)
theorem CK{α:Type}{xs:List α}{k:Int}(h0:0≤k)(h:k<xs.length):∃x,atI xs k=some x∧x∈xs:=by
 have hk:k.toNat<xs.length:=by omega
 refine⟨xs[k.toNat],?_,List.getElem_mem _⟩
 have e:k=((k.toNat:Nat):Int):=by omega
 have q:atI xs ((k.toNat:Nat):Int)=some xs[k.toNat]:=Ad (by simp[hk])
 rw[←e]at q
 exact q
end G
namespace G
open PySem PySem.Spec PyProof.Rows L2
section
variable {p:PV}{σ:PSt}{db:DE}{xs:List PV}{x0 x1 x2 x3 x4 x5 x6 x7 x8 x9 x10 x11 x12 x13 x14 x15 x16 x17 x18 x19 x20 x21 x22 x23 x24 x25:Option SV}
@[simp] theorem f9:ae 0 (some (.sh p)::σ)=.ok p:=rfl
@[simp] theorem Ga:ah 0 db (some (.sh p)::σ)=(db (some (.sh p)::σ)).bind fun q=>pIx p q:=rfl
@[simp] theorem zU:bj 0 (some (.sh p)::σ)=kd [p]:=rfl
@[simp] theorem xl:ae 1 (x0::some (.sh p)::σ)=.ok p:=rfl
@[simp] theorem F9:ah 1 db (x0::some (.sh p)::σ)=(db (x0::some (.sh p)::σ)).bind fun q=>pIx p q:=rfl
@[simp] theorem Cw:ah 1 db (x0::some (.own xs)::σ)=(db (x0::some (.own xs)::σ)).bind fun q=>pIx (.lst xs) q:=rfl
@[simp] theorem Ew:bj 1 (x0::some (.sh p)::σ)=kd [p]:=rfl
@[simp] theorem zV:bj 1 (x0::some (.own xs)::σ)=.ok (.int xs.length):=rfl
@[simp] theorem xk:ae 2 (x0::x1::some (.sh p)::σ)=.ok p:=rfl
@[simp] theorem F8:ah 2 db (x0::x1::some (.sh p)::σ)=(db (x0::x1::some (.sh p)::σ)).bind fun q=>pIx p q:=rfl
@[simp] theorem Cv:ae 3 (x0::x1::x2::some (.sh p)::σ)=.ok p:=rfl
@[simp] theorem F7:ah 3 db (x0::x1::x2::some (.sh p)::σ)=(db (x0::x1::x2::some (.sh p)::σ)).bind fun q=>pIx p q:=rfl
@[simp] theorem FX:ae 4 (x0::x1::x2::x3::some (.sh p)::σ)=.ok p:=rfl
@[simp] theorem F6:ah 4 db (x0::x1::x2::x3::some (.sh p)::σ)=(db (x0::x1::x2::x3::some (.sh p)::σ)).bind fun q=>pIx p q:=rfl
@[simp] theorem Eu:bj 4 (x0::x1::x2::x3::some (.sh p)::σ)=kd [p]:=rfl
@[simp] theorem FW:ae 5 (x0::x1::x2::x3::x4::some (.sh p)::σ)=.ok p:=rfl
@[simp] theorem FV:ae 6 (x0::x1::x2::x3::x4::x5::some (.sh p)::σ)=.ok p:=rfl
@[simp] theorem F5:ah 6 db (x0::x1::x2::x3::x4::x5::some (.sh p)::σ)=(db (x0::x1::x2::x3::x4::x5::some (.sh p)::σ)).bind fun q=>pIx p q:=rfl
@[simp] theorem FU:ae 7 (x0::x1::x2::x3::x4::x5::x6::some (.sh p)::σ)=.ok p:=rfl
@[simp] theorem F4:ah 7 db (x0::x1::x2::x3::x4::x5::x6::some (.sh p)::σ)=(db (x0::x1::x2::x3::x4::x5::x6::some (.sh p)::σ)).bind fun q=>pIx p q:=rfl
@[simp] theorem FQ:ae 8 (x0::x1::x2::x3::x4::x5::x6::x7::some (.sh p)::σ)=.ok p:=rfl
@[simp] theorem FY:ah 8 db (x0::x1::x2::x3::x4::x5::x6::x7::some (.sh p)::σ)=(db (x0::x1::x2::x3::x4::x5::x6::x7::some (.sh p)::σ)).bind fun q=>pIx p q:=rfl
@[simp] theorem FO:ae 9 (x0::x1::x2::x3::x4::x5::x6::x7::x8::some (.sh p)::σ)=.ok p:=rfl
@[simp] theorem Et:ae 10 (x0::x1::x2::x3::x4::x5::x6::x7::x8::x9::some (.sh p)::σ)=.ok p:=rfl
@[simp] theorem Ey:ah 10 db (x0::x1::x2::x3::x4::x5::x6::x7::x8::x9::some (.sh p)::σ)=(db (x0::x1::x2::x3::x4::x5::x6::x7::x8::x9::some (.sh p)::σ)).bind fun q=>pIx p q:=rfl
@[simp] theorem Es:ae 11 (x0::x1::x2::x3::x4::x5::x6::x7::x8::x9::x10::some (.sh p)::σ)=.ok p:=rfl
@[simp] theorem Ex:ah 11 db (x0::x1::x2::x3::x4::x5::x6::x7::x8::x9::x10::some (.sh p)::σ)=(db (x0::x1::x2::x3::x4::x5::x6::x7::x8::x9::x10::some (.sh p)::σ)).bind fun q=>pIx p q:=rfl
@[simp] theorem Er:ae 12 (x0::x1::x2::x3::x4::x5::x6::x7::x8::x9::x10::x11::some (.sh p)::σ)=.ok p:=rfl
end
@[simp] theorem EV:tyName .non = "NoneType":=rfl
@[simp] theorem Gh {b}:tyName (.bl b) = "bool":=rfl
@[simp] theorem ty_int {b}:tyName (.int b) = "int":=rfl
@[simp] theorem ty_str {b}:tyName (.str b) = "str":=rfl
@[simp] theorem ET {b}:tyName (.tup b) = "tuple":=rfl
@[simp] theorem EW {b}:tyName (.lst b) = "list":=rfl
@[simp] theorem EU {b}:tyName (.scr b) = "list":=rfl
@[simp] theorem EX:tyName .dic = "dict":=rfl
@[simp] theorem Gp{xs:List PV}{i:Int}:pIx (.tup xs) (.int i)=atR xs i id:=rfl
@[simp] theorem DL{xs:List PV}{i:Int}:pIx (.lst xs) (.int i)=atR xs i id:=rfl
@[simp] theorem Gq{xs:List Int}{i:Int}:pIx (.scr xs) (.int i)=atR xs i PV.int:=rfl
@[simp] theorem CJ{xs:List PV}:kd [.lst xs]=.ok (.int xs.length):=rfl
@[simp] theorem CH{xs:List Int}:kd [.scr xs]=.ok (.int xs.length):=rfl
@[simp] theorem kT{xs:List PV}:xV (.lst xs)=.ok xs:=rfl
theorem rZ{α:Type}{xs:List α}{i:Int}{f:α→PV}{x:α}(h:atI xs i=some x):atR xs i f=.ok (f x):=by unfold atR;rw[h]
@[simp] theorem Fp{p q:PV}:iM [p,q]=.ok (.lst [p,q]):=rfl
@[simp] theorem EG{α:Type}{f:α→PV}{y0:α}:atR [y0] (-1) f=.ok (f y0):=rfl
@[simp] theorem EF{α:Type}{f:α→PV}{y0 y1:α}:atR [y0,y1] 0 f=.ok (f y0):=rfl
@[simp] theorem EE{α:Type}{f:α→PV}{y0 y1:α}:atR [y0,y1] 1 f=.ok (f y1):=rfl
@[simp] theorem ED{α:Type}{f:α→PV}{y0 y1 y2:α}:atR [y0,y1,y2] 0 f=.ok (f y0):=rfl
@[simp] theorem EB{α:Type}{f:α→PV}{y0 y1 y2:α}:atR [y0,y1,y2] 1 f=.ok (f y1):=rfl
@[simp] theorem EA{α:Type}{f:α→PV}{y0 y1 y2:α}:atR [y0,y1,y2] 2 f=.ok (f y2):=rfl
end G
namespace G
open PySem PySem.Spec PyProof.Rows L2
section
variable {i j:Int}
@[simp] theorem El(n:Nat)(h:n<18446744073709551616):ay (.int i) (.int (no_index (OfNat.ofNat n)))=.ok (.int (i*OfNat.ofNat n)):=oh (mulR (by show -(2 ^ 64)<((n:Nat):Int);omega) (by show((n:Nat):Int)<2 ^ 64;omega))
@[simp] theorem Em(n:Nat)(h:n<18446744073709551616):ay (.int (no_index (OfNat.ofNat n))) (.int j)=.ok (.int (OfNat.ofNat n*j)):=oh (mulL (by show -(2 ^ 64)<((n:Nat):Int);omega) (by show((n:Nat):Int)<2 ^ 64;omega))
@[simp] theorem jW(n:Nat)(h:0<n):bU (.int i) (.int (no_index (OfNat.ofNat n)))=.ok (.int (i % OfNat.ofNat n)):=by
 have h0:(0:Int)<(OfNat.ofNat n:Int):=by show(0:Int)<((n:Nat):Int);omega
 rw[oi (by omega),Int.fmod_eq_emod_of_nonneg _ (by omega)]
@[simp] theorem ip(n:Nat)(h:0<n)(h':n<18446744073709551616):bC (.int i) (.int (no_index (OfNat.ofNat n)))=.ok (.int (i / OfNat.ofNat n)):=by
 have h0:(0:Int)<(OfNat.ofNat n:Int):=by show(0:Int)<((n:Nat):Int);omega
 have h1:(OfNat.ofNat n:Int)<2 ^ 64:=by show((n:Nat):Int)<2 ^ 64;omega
 rw[dj (by omega) (Nat.le_trans (intBits_le_64 (by omega) h1) (by decide)),Int.fdiv_eq_ediv_of_nonneg _ (by omega)]
@[simp] theorem Fn(n m:Nat)(h:n<18446744073709551616)(h':m≤1000000):uk (.int (no_index (OfNat.ofNat n))) (.int (no_index (OfNat.ofNat m)))=.ok (.int (OfNat.ofNat n ^ m)):=by
 have e:((OfNat.ofNat m:Int)).toNat=m:=by show(((m:Nat):Int)).toNat=m;omega
 rw[BI (by show(0:Int)≤((m:Nat):Int);omega) (by show((m:Nat):Int)≤1000000;omega) (by show(((n:Nat):Int)).natAbs<2 ^ 64;omega),e]
end
end G
namespace G
open PySem PySem.Spec PyProof.Rows L2
section
variable {σ:PSt}
end
end G
namespace G
open PySem PySem.Spec PyProof.Rows L2
def cV(i:Nat)(d:DS):DS:=fun σ=>match σ[i]? with
 |some (some (.own xs))=>d (σ.set i (some (.sh (.lst xs))))
 |_=>d σ
section
variable {X:Cx}{H0 Hs0 Hs H:Hp}{σ:PSt}{τ:L2.St}{a b:Expr}{da db:DE}{pos pos' np:Pos}{i:Nat}{x:Str}
theorem SR.share{K:PySem.W.Frag}{xs:List PV}(S:SR K H0 Hs0 Hs H σ τ)(e:σ[i]? = some (some (.own xs))):∃Hs',bc Hs Hs'∧SR K H0 Hs0 Hs' H (σ.set i (some (.sh (.lst xs)))) τ:=by
 obtain⟨v,e1,ad,vs,rfl,h1,h2,h3,h4⟩:=S.slot i _ e
 refine⟨upd Hs ad (.lst vs),cB h2,S.g.lay h1 h2 h3,fun j sv ej=>?_,fun j k xs' ys' a hjk e2 e3 e4=>?_,by rw[List.length_set];exact S.len⟩
 ·rcases bh ej with ⟨rfl,e',_⟩|⟨hne,e'⟩
  ·cases e'
   exact⟨.ref ad,e1,.lst aC (h4.mono (cB h2))⟩
  ·obtain⟨w,w1,w2⟩:=S.slot j sv e'
   refine⟨w,w1,?_⟩
   cases sv with
   |sh p=>exact Rep.mono (cB h2) w2
   |own ys=>
    obtain⟨a',vs',rfl,q1,q2,q3,q4⟩:=w2
    have:a'≠ad:=fun z=>S.inj i j xs ys ad (Ne.symm hne) e e' e1 (by rw[←z];exact w1)
    exact⟨a',vs',rfl,q1,by rw[aR this];exact q2,q3,q4.mono (cB h2)⟩
 ·rcases bh e2 with ⟨_,z,_⟩|⟨_,e2'⟩
  ·cases z
  ·rcases bh e3 with ⟨_,z,_⟩|⟨_,e3'⟩
   ·cases z
   ·exact S.inj j k _ _ _ hjk e2' e3' e4
theorem vH{st:Stmt}{d:DS}(i:Nat)(h:QS X H0 Hs0 st d):QS X H0 Hs0 st (cV i d):=PS.imp h fun D τ H ⟨Hs,σ,S,q⟩=>by
 unfold cV at q
 split at q
 ·rename_i xs e
  obtain⟨Hs',e',S'⟩:=S.share e
  exact⟨Hs',_,S',gy.same q e'⟩
 ·exact⟨Hs,σ,S,q⟩
theorem iV{st:Stmt}{d:DS}(i:Nat)(h:XS X H0 Hs0 st d):XS X H0 Hs0 st (cV i d):=⟨vH i h.h⟩
theorem AE:XGs X H0 Hs0 [] []:=⟨yL⟩
theorem xgs(i:Nat){is:List Nat}{es:List Expr}(h:XGs X H0 Hs0 es is)(hN:X.N.Nodup:=by assumption)(hi:X.N[i]? = some x:=by rfl)(hx:Loc X.env.scope x:=by first|exact Or.inl rfl|exact Or.inr rfl)(hf:X.fn x=true∨X.env.scope.names.lookup x=some .local:=by first|exact Or.inl rfl|exact Or.inr rfl)
  (hs:(assignEach (.Name x pos::es) X.env).map (·.2)=assign (.Name x pos) X.env::(assignEach es X.env).map (·.2):=by rfl):XGs X H0 Hs0 (.Name x pos::es) (i::is):=⟨vL hN hi hx hf h.h hs⟩
theorem xgu{is:List Nat}{es:List Expr}{k:Nat}(h:XGs X H0 Hs0 es is)(hc:X.calm=true:=by rfl)(hn:(assignEach es X.env).length=is.length:=by rfl)(hst:(assignEach es X.env).findIdx? (·.1)=none:=by rfl):XG X H0 Hs0 (.Tuple es k pos) (gU is):=⟨Bg hc h.h hn hst⟩
end
end G
namespace GS
open PySem PySem.SetTable
def kx(m:Nat)(p:Probe):Probe:=
 if p.more>0 then { p with j:=p.j+1,more:=p.more-1 } else
 { p with j:=(leap m p.i p.perturb).1,more:=runEnd m (leap m p.i p.perturb).1-(leap m p.i p.perturb).1,i:=(leap m p.i p.perturb).1,perturb:=(leap m p.i p.perturb).2 }
theorem mr(t:SetTable)(p:Probe):t.advance p=kx t.mask p:=rfl
def startM(m:Nat)(h:Int):Probe:={ j:=bits h % (m+1),more:=runEnd m (bits h % (m+1))-bits h % (m+1),i:=bits h % (m+1),perturb:=bits h,dummy:=none }
theorem C7(t:SetTable)(h:Int):t.probeStart h=startM t.mask h:=rfl
def steps(m:Nat):Nat→Probe→Probe
 |0,p=>p
 |n+1,p=>steps m n (kx m p)
theorem fG(m:Nat):∀(a b:Nat)(p:Probe),steps m (a+b) p=steps m b (steps m a p)
 |0,b,p=>by rw[Nat.zero_add];rfl
 |a+1,b,p=>by rw[Nat.add_right_comm];exact fG m a b (kx m p)
theorem iY(m n:Nat)(p:Probe):steps m (n+1) p=kx m (steps m n p):=fG m n 1 p
structure PInv (m:Nat) (p:Probe):Prop where
 i:p.i≤m
 j:p.j+p.more≤m
 more:p.more≤9
 pert:p.perturb<2 ^ 64
 dummy:p.dummy=none
theorem jR(m i:Nat)(h:i≤m):i+(runEnd m i-i)≤m∧runEnd m i-i≤9:=by
 unfold runEnd;split<;>omega
theorem PInv.start(m:Nat)(h:Int):PInv m (startM m h):=by
 have hi:bits h % (m+1)≤m:=Nat.le_of_lt_succ (Nat.mod_lt _ (Nat.succ_pos _))
 have hp:bits h<2 ^ 64:=by
  unfold bits
  have h1:0≤h % (2 ^ 64:Int):=Int.emod_nonneg _ (by decide)
  have h2:h % (2 ^ 64:Int)<2 ^ 64:=Int.emod_lt_of_pos _ (by decide)
  omega
 exact⟨hi,(jR m _ hi).1,(jR m _ hi).2,hp,rfl⟩
theorem PInv.adv{m:Nat}{p:Probe}(h:PInv m p):PInv m (kx m p):=by
 unfold kx
 split
 ·exact⟨h.i,by have:=h.j;show p.j+1+(p.more-1)≤m;omega,by have:=h.more;show p.more-1≤9;omega,h.pert,h.dummy⟩
 ·have hi:(leap m p.i p.perturb).1≤m:=Nat.le_of_lt_succ (Nat.mod_lt _ (Nat.succ_pos _))
  exact⟨hi,(jR m _ hi).1,(jR m _ hi).2,by have:=h.pert;show p.perturb / 32<2 ^ 64;omega,h.dummy⟩
theorem PInv.steps{m:Nat}:∀(n:Nat){p:Probe},PInv m p→PInv m (steps m n p)
 |0,_,h=>h
 |n+1,_,h=>PInv.steps n h.adv
def dR(m i pert:Nat):Probe:={ j:=i,more:=runEnd m i-i,i:=i,perturb:=pert,dummy:=none }
theorem nX(m:Nat):∀(k:Nat)(p:Probe),p.more=k→p.dummy=none→steps m (k+1) p=dR m (leap m p.i p.perturb).1 (leap m p.i p.perturb).2
 |0,p,hk,hd=>by
  show kx m p=_
  unfold kx
  rw[if_neg (by omega)]
  unfold dR;rw[hd]
 |k+1,p,hk,hd=>by
  show steps m (k+1) (kx m p)=_
  have e:kx m p = { p with j:=p.j+1,more:=p.more-1 }:=by unfold kx;rw[if_pos (by omega)]
  rw[e]
  exact nX m k { p with j:=p.j+1,more:=p.more-1 } (by show p.more-1=k;omega) hd
def cZ(m:Nat):Nat→Nat×Nat→Nat×Nat
 |0,x=>x
 |n+1,x=>cZ m n (leap m x.1 x.2)
theorem jb(m:Nat):∀(n:Nat)(x:Nat×Nat),cZ m (n+1) x=leap m (cZ m n x).1 (cZ m n x).2
 |0,x=>rfl
 |n+1,x=>jb m n (leap m x.1 x.2)
theorem lM(m:Nat):∀(n:Nat)(x:Nat×Nat),(cZ m n x).2=x.2 / 32 ^ n
 |0,x=>by simp[cZ]
 |n+1,x=>by
  rw[jb]
  show(cZ m n x).2 / 32=_
  rw[lM m n x,Nat.div_div_eq_div_mul,Nat.pow_succ]
theorem nj(m:Nat):∀(a b:Nat)(x:Nat×Nat),cZ m (a+b) x=cZ m b (cZ m a x)
 |0,b,x=>by rw[Nat.zero_add];rfl
 |a+1,b,x=>by rw[Nat.add_right_comm];exact nj m a b _
theorem lN(m:Nat):∀(L:Nat)(i pert:Nat),i≤m→∃n,n≤10*L∧steps m n (dR m i pert)=dR m (cZ m L (i,pert)).1 (cZ m L (i,pert)).2
 |0,i,pert,_=>⟨0,by omega,rfl⟩
 |L+1,i,pert,hi=>by
  have hr:=(jR m i hi).2
  have h1:=nX m (runEnd m i-i) (dR m i pert) rfl rfl
  have hi':(leap m i pert).1≤m:=Nat.le_of_lt_succ (Nat.mod_lt _ (Nat.succ_pos _))
  obtain⟨n,hn,e⟩:=lN m L (leap m i pert).1 (leap m i pert).2 hi'
  refine⟨(runEnd m i-i+1)+n,by omega,?_⟩
  rw[fG,h1]
  exact e
def itf(m:Nat):Nat→Nat→Nat
 |0,i=>i
 |n+1,i=>itf m n ((i*5+1) % (m+1))
theorem kJ(m:Nat):∀(a b:Nat)(i:Nat),itf m (a+b) i=itf m b (itf m a i)
 |0,b,i=>by rw[Nat.zero_add];rfl
 |a+1,b,i=>by rw[Nat.add_right_comm];exact kJ m a b _
theorem lL(m:Nat):∀(n i:Nat),cZ m n (i,0)=(itf m n i,0)
 |0,i=>rfl
 |n+1,i=>by
  show cZ m n (leap m i 0)=_
  have e:leap m i 0=((i*5+1) % (m+1),0):=rfl
  rw[e,lL m n];rfl
def itl(m:Nat):Nat→Nat→List Nat
 |0,_=>[]
 |n+1,i=>i::itl m n ((i*5+1) % (m+1))
theorem oI(m:Nat):∀(n i s:Nat),s∈itl m n i→∃k,k<n∧itf m k i=s
 |0,_,_,h=>by simp[itl]at h
 |n+1,i,s,h=>by
  rcases List.mem_cons.mp h with rfl|h
  ·exact⟨0,by omega,rfl⟩
  ·obtain⟨k,hk,e⟩:=oI m n _ s h
   exact⟨k+1,by omega,e⟩
def fi(m:Nat):Prop:=m=7∨m=31∨m=127
theorem full{m:Nat}(hm:fi m):itf m (m+1) 0=0∧∀s,s<m+1→s∈itl m (m+1) 0:=by
 rcases hm with rfl|rfl|rfl<;>exact⟨by decide +kernel,by decide +kernel⟩
theorem cover{m:Nat}(hm:fi m){i s:Nat}(hi:i≤m)(hs:s≤m):∃k,k≤m∧itf m k i=s:=by
 obtain⟨hz,hf⟩:=full hm
 obtain⟨a,ha,ea⟩:=oI m _ 0 i (hf i (by omega))
 obtain⟨b,hb,eb⟩:=oI m _ 0 s (hf s (by omega))
 by_cases h:a≤b
 ·refine⟨b-a,by omega,?_⟩
  rw[←ea,←kJ,show a+(b-a)=b by omega];exact eb
 ·refine⟨m+1-a+b,by omega,?_⟩
  rw[←ea,←kJ,show a+(m+1-a+b)=m+1+b by omega,kJ,hz];exact eb
theorem kl{m:Nat}(hm:fi m){i pert s:Nat}(hp:pert<2 ^ 64)(hs:s≤m):∃L,L<m+14∧(cZ m L (i,pert)).1=s:=by
 have h13:(cZ m 13 (i,pert)).2=0:=by rw[lM];show pert / 32 ^ 13=0;exact Nat.div_eq_of_lt (Nat.lt_trans hp (by decide))
 have hi:(cZ m 13 (i,pert)).1≤m:=by
  rw[jb];exact Nat.le_of_lt_succ (Nat.mod_lt _ (Nat.succ_pos _))
 obtain⟨k,hk,e⟩:=cover hm hi hs
 refine⟨13+k,by omega,?_⟩
 rw[nj]
 have:cZ m 13 (i,pert)=((cZ m 13 (i,pert)).1,0):=by rw[←h13]
 rw[this,lL];exact e
theorem qN{m:Nat}(hm:fi m)(h:Int){s:Nat}(hs:s≤m):∃n,n<10*(m+15)∧(steps m n (startM m h)).j=s:=by
 have hP:=PInv.start m h
 obtain⟨L,hL,e⟩:=kl hm (i:=bits h % (m+1)) (pert:=bits h) hP.pert hs
 obtain⟨n,hn,e2⟩:=lN m L (bits h % (m+1)) (bits h) hP.i
 refine⟨n,by omega,?_⟩
 have:startM m h=dR m (bits h % (m+1)) (bits h):=rfl
 rw[this,e2];exact e
end GS
namespace GS
open PySem PySem.SetTable
def pf(xs:Array Nat):Prop:=∀i j a b:Nat,i<j→xs[i]? = some a→xs[j]? = some b→a<b
theorem xO(xs:Array Nat)(j:Nat)(hr:pf xs):∀(fuel lo hi:Nat),hi-lo≤fuel→lo≤hi→hi≤xs.size →
  (∀i a:Nat,i<lo→xs[i]? = some a→a<j)→(∀i a:Nat,hi≤i→xs[i]? = some a→j≤a) →
  (∀i a:Nat,i<below.go xs j fuel lo hi→xs[i]? = some a→a<j)∧(∀i a:Nat,below.go xs j fuel lo hi≤i→xs[i]? = some a→j≤a)∧below.go xs j fuel lo hi≤xs.size:=by
 intro fuel
 induction fuel with
 |zero=>
  intro lo hi h1 h2 h3 hl hh
  have e:lo=hi:=by omega
  subst e
  exact⟨hl,hh,h3⟩
 |succ fuel ih=>
  intro lo hi h1 h2 h3 hl hh
  unfold below.go
  by_cases hlt:lo<hi
  ·rw[if_pos hlt]
   have hm1:lo≤(lo+hi) / 2:=by omega
   have hm2:(lo+hi) / 2<hi:=by omega
   have hms:(lo+hi) / 2<xs.size:=by omega
   have hg:xs[(lo+hi) / 2]? = some (xs.getD ((lo+hi) / 2) j):=by
    simp[Array.getD,hms]
   show(∀i a:Nat,i<(if xs.getD ((lo+hi) / 2) j<j then _ else _)→_)∧_∧_
   by_cases hc:xs.getD ((lo+hi) / 2) j<j
   ·simp only[hc,if_true]
    refine ih ((lo+hi) / 2+1) hi (by omega) (by omega) h3 ?_ hh
    intro i a hi' ha
    by_cases hle:i<(lo+hi) / 2
    ·exact Nat.lt_trans (hr i _ a _ hle ha hg) hc
    ·have:i=(lo+hi) / 2:=by omega
     subst this
     rw[ha]at hg
     rw[Option.some.inj hg];exact hc
   ·simp only[hc,if_false]
    refine ih lo ((lo+hi) / 2) (by omega) (by omega) (by omega) hl ?_
    intro i a hi' ha
    by_cases hle:(lo+hi) / 2<i
    ·exact Nat.le_trans (Nat.not_lt.mp hc) (Nat.le_of_lt (hr _ i _ a hle hg ha))
    ·have:i=(lo+hi) / 2:=by omega
     subst this
     rw[ha]at hg
     rw[Option.some.inj hg];exact Nat.not_lt.mp hc
  ·rw[if_neg hlt]
   have e:lo=hi:=by omega
   subst e
   exact⟨hl,hh,h3⟩
theorem cX(xs:Array Nat)(j:Nat)(hr:pf xs):
  (∀i a:Nat,i<below xs j→xs[i]? = some a→a<j)∧(∀i a:Nat,below xs j≤i→xs[i]? = some a→j≤a)∧below xs j≤xs.size:=
 xO xs j hr xs.size 0 xs.size (by omega) (by omega) (Nat.le_refl _) (fun _ _ h=>absurd h (Nat.not_lt_zero _)) (fun i a h ha=>by
  have:i<xs.size:=by
   rcases Nat.lt_or_ge i xs.size with q|q
   ·exact q
   ·rw[Array.getElem?_eq_none q]at ha;cases ha
  omega)
theorem below_at{xs:Array Nat}(hr:pf xs){i j:Nat}(h:xs[i]? = some j):below xs j=i:=by
 obtain⟨h1,h2,h3⟩:=cX xs j hr
 have ni:¬i<below xs j:=fun q=>Nat.lt_irrefl _ (h1 i j q h)
 rcases Nat.lt_or_ge (below xs j) i with q|q
 ·have hb:below xs j<xs.size:=by
   have:i<xs.size:=by
    rcases Nat.lt_or_ge i xs.size with q|q
    ·exact q
    ·rw[Array.getElem?_eq_none q]at h;cases h
   omega
  have g:xs[below xs j]? = some xs[below xs j]:=Array.getElem?_eq_getElem hb
  have:=hr _ i _ j q g h
  have:=h2 _ _ (Nat.le_refl _) g
  omega
 ·omega
theorem eB{t:SetTable}(hr:pf t.place){i j:Nat}(h:t.place[i]? = some j):t.slot j=.live i:=by
 unfold SetTable.slot
 simp only[below_at hr h,h,beq_self_eq_true,if_true]
theorem qV{t:SetTable}(hd:t.dummies = #[]){j:Nat}(h:∀i:Nat,t.place[i]?≠some j):t.slot j=.empty:=by
 unfold SetTable.slot
 have:(t.place[below t.place j]? == some j)=false:=by
  cases hb:(t.place[below t.place j]? == some j) with
  |false=>rfl
  |true=>exact absurd (by simpa using hb) (h _)
 have h2:has #[] j=false:=by unfold has;simp
 simp only[this,hd,h2,Bool.false_eq_true,if_false]
def ft(xs:Array Nat)(j:Nat):Prop:=∃i:Nat,xs[i]? = some j
def Reach(m:Nat)(xs:Array Nat)(h:Int)(j:Nat):Prop:=∃n,(steps m n (startM m h)).j=j∧∀k,k<n→ft xs (steps m k (startM m h)).j
theorem Reach.mono{m:Nat}{xs ys:Array Nat}{h:Int}{j:Nat}(r:Reach m xs h j)(q:∀k,ft xs k→ft ys k):Reach m ys h j:=
 let⟨n,e,a⟩:=r;⟨n,e,fun k hk=>q _ (a k hk)⟩
structure TInv (t:SetTable) (hs:List Int):Prop where
 mask:fi t.mask
 nd:t.dummies = #[]
 size:t.place.size=hs.length
 rise:pf t.place
 le:∀j,ft t.place j→j≤t.mask
 room:t.place.size*5<t.mask*3
 reach:∀(i j:Nat)(h:Int),t.place[i]? = some j→hs[i]? = some h→Reach t.mask t.place h j
theorem mY(m:Nat)(xs:Array Nat)(h:xs.size≤m):∃s,s≤m∧¬ft xs s:=by
 apply Classical.byContradiction
 intro hc
 have hall:∀s,s<m+1→s∈xs.toList:=fun s hs=>Classical.byContradiction fun hn=>hc ⟨s,by omega,fun ⟨i,hi⟩=>hn (by
  rw[←Array.getElem?_toList]at hi;exact List.mem_of_getElem? hi)⟩
 have:(List.range (m+1)).length≤xs.toList.length:=by
  have key:∀(l:List Nat),l.Nodup→∀(r:List Nat),(∀x∈l,x∈r)→l.length≤r.length:=by
   intro l
   induction l with
   |nil=>intro _ r _;exact Nat.zero_le _
   |cons a l ih=>
    intro hn r hr
    have ha:=hr a (.head _)
    have h2:=ih (List.nodup_cons.mp hn).2 (r.erase a) (fun x hx=>by
     have hxa:x≠a:=fun e=>(List.nodup_cons.mp hn).1 (e▸hx)
     exact(List.mem_erase_of_ne hxa).mpr (hr x (.tail _ hx)))
    rw[List.length_erase_of_mem ha]at h2
    have:0<r.length:=List.length_pos_of_mem ha
    simp only[List.length_cons];omega
  exact key _ List.nodup_range _ fun x hx=>hall x (List.mem_range.mp hx)
 rw[List.length_range,Array.length_toList]at this
 omega
theorem rP{t:SetTable}{hs:List Int}(T:TInv t hs)(h:Int):∃N,N<10*(t.mask+15)∧¬ft t.place (steps t.mask N (startM t.mask h)).j∧∀k,k<N→ft t.place (steps t.mask k (startM t.mask h)).j:=by
 obtain⟨s,hs',hf⟩:=mY t.mask t.place (by have:=T.room;omega)
 obtain⟨n,hn,e⟩:=qN T.mask h hs'
 have key:∀n,¬ft t.place (steps t.mask n (startM t.mask h)).j→∃N,N≤n∧¬ft t.place (steps t.mask N (startM t.mask h)).j∧∀k,k<N→ft t.place (steps t.mask k (startM t.mask h)).j:=by
  intro n
  induction n using Nat.strongRecOn with
  |_ n ih=>
   intro hn
   by_cases hk:∀k,k<n→ft t.place (steps t.mask k (startM t.mask h)).j
   ·exact⟨n,Nat.le_refl _,hn,hk⟩
   ·obtain⟨k,hk2⟩:=Classical.not_forall.mp hk
    obtain⟨hk3,hk4⟩:=Classical.not_imp.mp hk2
    obtain⟨N,hN,a,b⟩:=ih k hk3 hk4
    exact⟨N,by omega,a,b⟩
 obtain⟨N,hN,a,b⟩:=key n (by rw[e];exact hf)
 exact⟨N,by omega,a,b⟩
theorem rj{t:SetTable}{hs:List Int}(T:TInv t hs)(hashAt:Nat→Int)(h:Int){N:Nat}
  (hN:¬ft t.place (steps t.mask N (startM t.mask h)).j) (hb:∀k,k<N→ft t.place (steps t.mask k (startM t.mask h)).j):
  ∀(fuel n:Nat),n≤N→N-n<fuel →
   SetTable.probe.go t hashAt h fuel (steps t.mask n (startM t.mask h))=some (.empty (steps t.mask N (startM t.mask h)).j none)∧(∀k i:Nat,n≤k→k<N→t.place[i]? = some (steps t.mask k (startM t.mask h)).j→hashAt i≠h)
   ∨ ∃k i:Nat,n≤k∧k<N∧t.place[i]? = some (steps t.mask k (startM t.mask h)).j∧hashAt i=h ∧
    (∀k' i':Nat,n≤k'→k'<k→t.place[i']? = some (steps t.mask k' (startM t.mask h)).j→hashAt i'≠h) ∧
    SetTable.probe.go t hashAt h fuel (steps t.mask n (startM t.mask h))=some (.candidate (steps t.mask k (startM t.mask h)).j i (steps t.mask (k+1) (startM t.mask h))):=by
 intro fuel
 induction fuel with
 |zero=>intro n h1 h2;omega
 |succ fuel ih=>
  intro n h1 h2
  have hP:=PInv.steps n (PInv.start t.mask h)
  unfold SetTable.probe.go
  rcases Nat.lt_or_ge n N with hlt|hge
  ·obtain⟨i,hi⟩:=hb n hlt
   rw[eB T.rise hi]
   dsimp only
   by_cases hh:hashAt i=h
   ·refine .inr ⟨n,i,Nat.le_refl _,hlt,hi,hh,fun k' _ a b=>by omega,?_⟩
    rw[if_pos (by simpa using hh),mr,←iY]
   ·rw[if_neg (by simpa using hh),mr,←iY]
    have uniq:∀i':Nat,t.place[i']? = some (steps t.mask n (startM t.mask h)).j→hashAt i'≠h:=fun i' hi'=>by
     have:=eB T.rise hi
     have h2:=eB T.rise hi'
     rw[this]at h2
     cases h2
     exact hh
    rcases ih (n+1) hlt (by omega) with ⟨e,a⟩|⟨k,i',h3,h4,h5,h6,h7,e⟩
    ·refine .inl ⟨e,fun k i' hk hk2 hp=>?_⟩
     rcases Nat.lt_or_ge n k with q|q
     ·exact a k i' q hk2 hp
     ·have:k=n:=by omega
      subst this;exact uniq i' hp
    ·refine .inr ⟨k,i',by omega,h4,h5,h6,fun k' i2 hk hk2 hp=>?_,e⟩
     rcases Nat.lt_or_ge n k' with q|q
     ·exact h7 k' i2 q hk2 hp
     ·have:k'=n:=by omega
      subst this;exact uniq i2 hp
  ·have:n=N:=by omega
   subst this
   rw[qV T.nd (fun i hi=>hN ⟨i,hi⟩)]
   refine .inl ⟨?_,fun k _ a b=>by omega⟩
   dsimp only
   rw[hP.dummy]
theorem cu{α:Type}(xs:Array α)(p:Nat)(x:α):(insertAt xs p x).toList=xs.toList.take p++x::xs.toList.drop p:=by
 unfold insertAt
 simp[List.take_of_length_le]
theorem cP{α:Type}(xs:Array α){p:Nat}(hp:p≤xs.size)(x:α):(insertAt xs p x).size=xs.size+1:=by
 rw[←Array.length_toList,cu,List.length_append,List.length_cons,List.length_take,List.length_drop,Array.length_toList];omega
theorem b8{α:Type}(xs:Array α){p:Nat}(hp:p≤xs.size)(x:α)(i:Nat):(insertAt xs p x)[i]? = if i<p then xs[i]? else if i=p then some x else xs[i-1]?:=by
 rw[←Array.getElem?_toList,cu,List.getElem?_append,List.length_take,Array.length_toList,Nat.min_eq_left hp]
 by_cases h1:i<p
 ·rw[if_pos h1,if_pos h1,List.getElem?_take_of_lt h1,Array.getElem?_toList]
 ·rw[if_neg h1,if_neg h1]
  by_cases h2:i=p
  ·subst h2;simp
  ·rw[if_neg h2]
   obtain⟨k,hk⟩:∃k,i-p=k+1:=⟨i-p-1,by omega⟩
   rw[hk,List.getElem?_cons_succ,List.getElem?_drop,Array.getElem?_toList]
   congr 1;omega
theorem insertAt_perm{α:Type}(xs:Array α){p:Nat}(x:α):(insertAt xs p x).toList.Perm (x::xs.toList):=by
 rw[cu]
 refine List.perm_middle.trans (List.Perm.cons _ ?_)
 rw[List.take_append_drop]
theorem ja{α:Type}{xs:Array α}{i:Nat}{a:α}(h:xs[i]? = some a):i<xs.size:=by
 rcases Nat.lt_or_ge i xs.size with q|q
 ·exact q
 ·rw[Array.getElem?_eq_none q]at h;cases h
theorem mL{xs:Array Nat}(hr:pf xs){j:Nat}(hn:¬ft xs j):pf (insertAt xs (below xs j) j):=by
 obtain⟨h1,h2,h3⟩:=cX xs j hr
 intro a b x y hab ha hb
 rw[b8 xs h3]at ha hb
 have hge:∀i v:Nat,below xs j≤i→xs[i]? = some v→j<v:=fun i v hi hv=>by
  have:=h2 i v hi hv
  rcases Nat.lt_or_ge j v with q|q
  ·exact q
  ·exact absurd ⟨i,by rw[hv];congr 1;omega⟩ hn
 split at ha
 ·rename_i ha1
  have hx:=h1 a x ha1 ha
  split at hb
  ·exact hr a b x y hab ha hb
  ·split at hb
   ·cases hb;exact hx
   ·exact Nat.lt_trans hx (hge (b-1) y (by omega) hb)
 ·split at ha
  ·cases ha
   split at hb
   ·omega
   ·split at hb
    ·omega
    ·exact hge (b-1) y (by omega) hb
  ·split at hb
   ·omega
   ·split at hb
    ·omega
    ·exact hr (a-1) (b-1) x y (by omega) ha hb
theorem mM{xs:Array Nat}{p:Nat}(hp:p≤xs.size)(j k:Nat):ft (insertAt xs p j) k↔k=j∨ft xs k:=by
 constructor
 ·rintro⟨i,hi⟩
  rw[b8 xs hp]at hi
  split at hi
  ·exact .inr ⟨i,hi⟩
  ·split at hi
   ·cases hi;exact .inl rfl
   ·exact .inr ⟨_,hi⟩
 ·rintro(rfl|⟨i,hi⟩)
  ·exact⟨p,by rw[b8 xs hp,if_neg (Nat.lt_irrefl _),if_pos rfl]⟩
  ·rcases Nat.lt_or_ge i p with q|q
   ·exact⟨i,by rw[b8 xs hp,if_pos q];exact hi⟩
   ·exact⟨i+1,by rw[b8 xs hp,if_neg (by omega),if_neg (by omega)];exact hi⟩
structure TPre (t:SetTable) (hs:List Int):Prop where
 mask:fi t.mask
 nd:t.dummies = #[]
 size:t.place.size=hs.length
 rise:pf t.place
 le:∀j,ft t.place j→j≤t.mask
 reach:∀(i j:Nat)(h:Int),t.place[i]? = some j→hs[i]? = some h→Reach t.mask t.place h j
theorem TPre.full{t:SetTable}{hs:List Int}(T:TPre t hs)(h:t.place.size*5<t.mask*3):TInv t hs:=⟨T.mask,T.nd,T.size,T.rise,T.le,h,T.reach⟩
theorem Bo{t:SetTable}(hd:t.dummies = #[])(j:Nat):t.put j=({ t with place:=insertAt t.place (below t.place j) j },below t.place j):=by
 unfold SetTable.put
 have h2:has t.dummies j=false:=by rw[hd];unfold has;simp
 rw[h2];simp
theorem yR{t:SetTable}{es:Array Int}(T:TInv t es.toList)(h:Int){N:Nat}(hN:¬ft t.place (steps t.mask N (startM t.mask h)).j)
  (hb:∀k,k<N→ft t.place (steps t.mask k (startM t.mask h)).j):
  TPre { t with place:=insertAt t.place (below t.place (steps t.mask N (startM t.mask h)).j) (steps t.mask N (startM t.mask h)).j } (insertAt es (below t.place (steps t.mask N (startM t.mask h)).j) h).toList:=by
 have h3:=(cX t.place (steps t.mask N (startM t.mask h)).j T.rise).2.2
 have hsz:t.place.size=es.size:=by rw[T.size,Array.length_toList]
 have lv:=mM h3 (steps t.mask N (startM t.mask h)).j
 refine⟨T.mask,T.nd,?_,mL T.rise hN,?_,?_⟩
 ·show(insertAt t.place _ _).size=_
  rw[Array.length_toList,cP _ h3,cP _ (by rw[←hsz];exact h3),hsz]
 ·intro k hk
  rcases(lv k).mp hk with rfl|hk
  ·have:=(PInv.steps N (PInv.start t.mask h)).j;show _≤t.mask;omega
  ·exact T.le k hk
 ·intro i j h' hi hh
  rw[Array.getElem?_toList]at hh
  show Reach t.mask (insertAt t.place _ _) h' j
  replace hi:(insertAt t.place (below t.place (steps t.mask N (startM t.mask h)).j) (steps t.mask N (startM t.mask h)).j)[i]? = some j:=hi
  rw[b8 _ h3]at hi
  rw[b8 _ (by rw[←hsz];exact h3)]at hh
  split at hi
  ·rename_i q
   rw[if_pos q]at hh
   exact(T.reach i j h' hi (by rw[Array.getElem?_toList];exact hh)).mono fun k hk=>(lv k).mpr (.inr hk)
  ·rename_i q
   rw[if_neg q]at hh
   split at hi
   ·rename_i q2
    rw[if_pos q2]at hh
    cases hi;cases hh
    exact⟨N,rfl,fun k hk=>(lv _).mpr (.inr (hb k hk))⟩
   ·rename_i q2
    rw[if_neg q2]at hh
    exact(T.reach _ j h' hi (by rw[Array.getElem?_toList];exact hh)).mono fun k hk=>(lv k).mpr (.inr hk)
end GS
namespace GS
open PySem PySem.SetTable
def pw(owner:Array (Option Nat))(j:Nat):Prop:=owner[j]? = some none
def Occ(owner:Array (Option Nat))(j:Nat):Prop:=∃k,owner[j]? = some (some k)
theorem gR{owner:Array (Option Nat)}{j:Nat}(h:j<owner.size):pw owner j∨Occ owner j:=by
 unfold pw Occ
 rw[Array.getElem?_eq_getElem h]
 cases owner[j] with
 |none=>exact .inl rfl
 |some k=>exact .inr ⟨k,rfl⟩
theorem Ck{owner:Array (Option Nat)}{j:Nat}:(owner.getD j (some 0)).isNone=true↔pw owner j:=by
 unfold pw
 rw[Array.getD_eq_getD_getElem?]
 cases owner[j]? with
 |none=>simp
 |some o=>cases o<;>simp
theorem nY(m i pert:Nat):∀k,k≤runEnd m i-i→steps m k (dR m i pert) = { j:=i+k,more:=runEnd m i-i-k,i:=i,perturb:=pert,dummy:=none }
 |0,_=>rfl
 |k+1,h=>by
  rw[iY,nY m i pert k (by omega)]
  unfold kx
  rw[if_pos (by show runEnd m i-i-k>0;omega)]
  rfl
theorem uJ(m:Nat)(owner:Array (Option Nat))(hz:owner.size=m+1):∀(fuel i pert:Nat),i≤m→(∃L,L<fuel∧pw owner (cZ m L (i,pert)).1) →
  ∃j n,layClean.free m owner fuel i pert=some j∧(steps m n (dR m i pert)).j=j∧pw owner j∧∀k,k<n→Occ owner (steps m k (dR m i pert)).j:=by
 intro fuel
 induction fuel with
 |zero=>rintro i pert _ ⟨L,hL,_⟩;omega
 |succ fuel ih=>
  rintro i pert hi ⟨L,hL,hf⟩
  have hrun:=jR m i hi
  have hge:i≤runEnd m i:=by unfold runEnd;split<;>omega
  unfold layClean.free
  cases hq:(List.range (runEnd m i+1-i)).find? (fun k=>(owner.getD (i+k) (some 0)).isNone) with
  |some k=>
   obtain⟨h1,h2,h3⟩:=List.find?_range_eq_some.mp hq
   have hk:k≤runEnd m i-i:=by have:=List.mem_range.mp h2;omega
   refine⟨i+k,k,rfl,?_,Ck.mp h1,fun k' hk'=>?_⟩
   ·rw[nY m i pert k hk]
   ·rw[nY m i pert k' (by omega)]
    have hn:=h3 k' hk'
    rcases gR (owner:=owner) (j:=i+k') (by omega) with q|q
    ·rw[Ck.mpr q]at hn;simp at hn
    ·exact q
  |none=>
   have hall:∀k,k≤runEnd m i-i→Occ owner (i+k):=fun k hk=>by
    have:=List.find?_eq_none.mp hq k (List.mem_range.mpr (by omega))
    rcases gR (owner:=owner) (j:=i+k) (by omega) with q|q
    ·exact absurd (Ck.mpr q) this
    ·exact q
   have hi':(leap m i pert).1≤m:=Nat.le_of_lt_succ (Nat.mod_lt _ (Nat.succ_pos _))
   obtain⟨L',hL'⟩:∃L',L=L'+1:=by
    cases L with
    |zero=>
     have h0:=hall 0 (Nat.zero_le _)
     obtain⟨q,hq⟩:=h0
     have hf':owner[i]? = some none:=hf
     rw[Nat.add_zero,hf']at hq;cases hq
    |succ L'=>exact⟨L',rfl⟩
   subst hL'
   obtain⟨j,n,e1,e2,e3,e4⟩:=ih (leap m i pert).1 (leap m i pert).2 hi' ⟨L',by omega,hf⟩
   have hre:steps m (runEnd m i-i+1) (dR m i pert)=dR m (leap m i pert).1 (leap m i pert).2:=nX m (runEnd m i-i) (dR m i pert) rfl rfl
   refine⟨j,(runEnd m i-i+1)+n,e1,?_,e3,fun k hk=>?_⟩
   ·rw[fG,hre];exact e2
   ·rcases Nat.lt_or_ge k (runEnd m i-i+1) with q|q
    ·rw[nY m i pert k (by omega)];exact hall k (by omega)
    ·obtain⟨d,rfl⟩:∃d,k=(runEnd m i-i+1)+d:=⟨k-(runEnd m i-i+1),by omega⟩
     rw[fG,hre];exact e4 d (by omega)
structure OInv (m:Nat) (owner:Array (Option Nat)) (sl:List Nat) (done:List Int):Prop where
 size:owner.size=m+1
 len:sl.length=done.length
 at_:∀k j:Nat,sl[k]? = some j↔owner[j]? = some (some k)
 reach:∀(j k:Nat)(h:Int),owner[j]? = some (some k)→done[k]? = some h→∃n,(steps m n (startM m h)).j=j∧∀q,q<n→Occ owner (steps m q (startM m h)).j
theorem OInv.nil(m:Nat):OInv m (Array.replicate (m+1) none) [] []:=by
 refine⟨by simp,rfl,fun k j=>?_,fun j k h hj=>?_⟩
 ·simp[Array.getElem?_replicate]
 ·simp[Array.getElem?_replicate]at hj
theorem OInv.step{m:Nat}(hm:fi m){owner:Array (Option Nat)}{sl:List Nat}{done:List Int}(O:OInv m owner sl done)(hr:done.length≤m)(h:Int):
  ∃j,layClean.free m owner (turns m) (bits h % (m+1)) (bits h)=some j∧OInv m (owner.setIfInBounds j (some done.length)) (sl++[j]) (done++[h]):=by
 have hP:=PInv.start m h
 obtain⟨s,hs,hn⟩:=mY m sl.toArray (by rw[List.size_toArray,O.len];exact hr)
 have hfs:pw owner s:=by
  rcases gR (owner:=owner) (j:=s) (by rw[O.size];omega) with q|⟨k,q⟩
  ·exact q
  ·exact absurd ⟨k,by rw[List.getElem?_toArray];exact(O.at_ k s).mpr q⟩ hn
 obtain⟨L,hL,e⟩:=kl hm (i:=bits h % (m+1)) (pert:=bits h) hP.pert hs
 obtain⟨j,n,e1,e2,e3,e4⟩:=uJ m owner O.size (turns m) (bits h % (m+1)) (bits h) hP.i ⟨L,by unfold turns;omega,by rw[e];exact hfs⟩
 have hj:j<owner.size:=by
  unfold pw at e3
  rcases Nat.lt_or_ge j owner.size with q|q
  ·exact q
  ·rw[Array.getElem?_eq_none q]at e3;cases e3
 have get:∀j':Nat,(owner.setIfInBounds j (some done.length))[j']? = if j'=j then some (some done.length) else owner[j']?:=fun j'=>by
  rw[Array.getElem?_setIfInBounds]
  by_cases h1:j=j'
  ·subst h1;rw[if_pos rfl,if_pos rfl,if_pos hj]
  ·rw[if_neg h1,if_neg (fun q=>h1 q.symm)]
 have occ:∀q,Occ owner q→Occ (owner.setIfInBounds j (some done.length)) q:=fun q ⟨k,hk⟩=>by
  by_cases h1:q=j
  ·exact⟨done.length,by rw[get,if_pos h1]⟩
  ·exact⟨k,by rw[get,if_neg h1];exact hk⟩
 refine⟨j,e1,by simp[O.size],by simp[O.len],fun k j'=>?_,fun j' k h' hk hd=>?_⟩
 ·rw[get]
  constructor
  ·intro hk
   rw[List.getElem?_append]at hk
   split at hk
   ·rename_i hlt
    have ho:=(O.at_ k j').mp hk
    have hne:j'≠j:=fun q=>by subst q;unfold pw at e3;rw[e3]at ho;cases ho
    rw[if_neg hne];exact ho
   ·rename_i hge
    have h0:k-sl.length=0:=by
     rcases Nat.eq_zero_or_pos (k-sl.length) with q|q
     ·exact q
     ·rw[List.getElem?_eq_none (by simp;omega)]at hk;cases hk
    rw[h0]at hk
    have:j=j':=by simpa using hk
    subst this
    rw[if_pos rfl,←O.len,show sl.length=k by omega]
  ·intro hk
   split at hk
   ·rename_i q
    subst q
    have:done.length=k:=by simpa using hk
    subst this
    rw[←O.len];simp
   ·have:=(O.at_ k j').mpr hk
    rw[List.getElem?_append_left]
    ·exact this
    ·rcases Nat.lt_or_ge k sl.length with q|q
     ·exact q
     ·rw[List.getElem?_eq_none q]at this;cases this
 ·rw[get]at hk
  split at hk
  ·rename_i q
   subst q
   have:done.length=k:=by simpa using hk
   subst this
   have:h=h':=by simpa using hd
   subst this
   exact⟨n,e2,fun q hq=>occ _ (e4 q hq)⟩
  ·have hlt:k<done.length:=by
    have:=(O.at_ k j').mpr hk
    rw[←O.len]
    rcases Nat.lt_or_ge k sl.length with q|q
    ·exact q
    ·rw[List.getElem?_eq_none q]at this;cases this
   rw[List.getElem?_append_left hlt]at hd
   obtain⟨n',a,b⟩:=O.reach j' k h' hk hd
   exact⟨n',a,fun q hq=>occ _ (b q hq)⟩
theorem qe{m:Nat}(hm:fi m)(hs:List Int)(hl:hs.length≤m+1):∃owner sl,layClean m hs.toArray=some owner∧OInv m owner sl hs:=by
 have key:∀(rest done:List Int)(owner:Array (Option Nat))(sl:List Nat),OInv m owner sl done→(done++rest).length≤m+1 →
   ∃owner' sl',rest.foldl (fun acc h=>do
    let(owner,k) ←acc
    let j ←layClean.free m owner (turns m) (bits h % (m+1)) (bits h)
    pure (owner.setIfInBounds j (some k),k+1)) (some (owner,done.length))=some (owner',(done++rest).length)∧OInv m owner' sl' (done++rest):=by
  intro rest
  induction rest with
  |nil=>intro done owner sl O _;exact⟨owner,sl,by simp,by simpa using O⟩
  |cons h rest ih=>
   intro done owner sl O hlen
   obtain⟨j,e,O'⟩:=O.step hm (by rw[List.length_append,List.length_cons]at hlen;omega) h
   obtain⟨o2,s2,e2,O2⟩:=ih (done++[h]) _ _ O' (by rw[List.append_assoc];exact hlen)
   refine⟨o2,s2,?_,by rw[List.append_assoc]at O2;exact O2⟩
   rw[List.foldl_cons]
   rw[List.append_assoc]at e2
   rw[show(done++[h]).length=done.length+1 by simp]at e2
   rw[←show done++([h]++rest)=done++h::rest from rfl,←e2]
   congr 1
   show(do let j ←layClean.free m owner (turns m) (bits h % (m+1)) (bits h);pure (owner.setIfInBounds j (some done.length),done.length+1))=_
   rw[e];rfl
 obtain⟨o,s,e,O⟩:=key hs [] _ _ (OInv.nil m) (by simpa using hl)
 refine⟨o,s,?_,by simpa using O⟩
 unfold layClean
 rw[←Array.foldl_toList]
 have e':=e
 rw[List.length_nil]at e'
 show Option.map _ (List.foldl _ (some (Array.replicate (m+1) none,0)) hs)=_
 rw[e'];rfl
theorem mJ{l r:List Nat}(hl:l.Nodup)(hr:r.Nodup)(h:∀x,x∈l↔x∈r):l.Perm r:=by
 rw[List.perm_iff_count]
 intro a
 rw[hl.count,hr.count]
 simp[h a]
theorem jT{l:List Nat}(h:l.Pairwise (· < ·)):pf l.toArray:=by
 intro i j a b hij ha hb
 rw[List.getElem?_toArray]at ha hb
 obtain⟨hi,rfl⟩:=List.getElem?_eq_some_iff.mp ha
 obtain⟨hj,rfl⟩:=List.getElem?_eq_some_iff.mp hb
 exact List.pairwise_iff_getElem.mp h i j hi hj hij
theorem zB{m:Nat}(hm:fi m)(finger moves:Nat)(led plain:Bool)(hs:List Int)(hl:hs.length≤m+1):
  ∃t order,laid m finger moves led plain hs.toArray=some (t,order)∧t.mask=m∧t.led=led∧t.plain=plain∧order.toList.Perm (List.range hs.length) ∧
   TPre t (order.toList.map fun k=>hs.getD k 0):=by
 obtain⟨owner,sl,e,O⟩:=qe hm hs hl
 let live:=(List.range (m+1)).filterMap fun j=>(owner.getD j none).map (j,·)
 have hlive:∀(x:Nat×Nat),x∈live↔owner[x.1]? = some (some x.2):=by
  rintro⟨j,k⟩
  simp only[live,List.mem_filterMap,List.mem_range,Array.getD_eq_getD_getElem?]
  constructor
  ·rintro⟨j',hj',hx⟩
   cases ho:owner[j']? with
   |none=>rw[ho]at hx;simp at hx
   |some o=>
    cases o with
    |none=>rw[ho]at hx;simp at hx
    |some q=>
     rw[ho]at hx
     simp at hx
     obtain⟨rfl,rfl⟩:=hx
     exact ho
  ·intro hx
   refine⟨j,?_,?_⟩
   ·rcases Nat.lt_or_ge j (m+1) with q|q
    ·exact q
    ·rw[Array.getElem?_eq_none (by rw[O.size];exact q)]at hx;cases hx
   ·replace hx:owner[j]? = some (some k):=hx
    rw[hx];simp
 have hpw:live.Pairwise fun a b=>a.1<b.1:=by
  refine List.Pairwise.filterMap _ (R:=fun a b:Nat=>a<b) ?_ List.pairwise_lt_range
  intro a a' haa b hb b' hb'
  simp only[Option.map_eq_some_iff]at hb hb'
  obtain⟨_,_,rfl⟩:=hb
  obtain⟨_,_,rfl⟩:=hb'
  exact haa
 refine⟨{ mask:=m,place:=(live.map (·.1)).toArray,dummies:=#[],finger,led,moves,plain },(live.map (·.2)).toArray,?_,rfl,rfl,rfl,?_,?_⟩
 ·unfold laid;rw[e];rfl
 ·refine mJ ?_ List.nodup_range fun k=>?_
  ·show(live.map (·.2)).Nodup
   refine List.Pairwise.map _ (R:=fun a b:Nat×Nat=>a∈live∧b∈live∧a.1<b.1) ?_ ?_
   ·rintro⟨j,k⟩ ⟨j',k'⟩ ⟨ha,hb,hlt⟩ hkk
    simp only at hkk hlt
    subst hkk
    have h1:=(O.at_ k j).mpr ((hlive _).mp ha)
    have h2:=(O.at_ k j').mpr ((hlive _).mp hb)
    rw[h1]at h2
    have:j=j':=by simpa using h2
    omega
   ·exact(List.Pairwise.and_mem.mp hpw).imp fun h=>⟨h.1,h.2.1,h.2.2⟩
  ·show k∈live.map (·.2)↔_
   rw[List.mem_map,List.mem_range]
   constructor
   ·rintro⟨⟨j,k'⟩,hx,rfl⟩
    have:=(O.at_ k' j).mpr ((hlive _).mp hx)
    rw[←O.len]
    rcases Nat.lt_or_ge k' sl.length with q|q
    ·exact q
    ·rw[List.getElem?_eq_none q]at this;cases this
   ·intro hk
    rw[←O.len]at hk
    exact⟨(sl[k],k),(hlive _).mpr ((O.at_ k _).mp (List.getElem?_eq_getElem hk)),rfl⟩
 ·have hL:∀j,ft (live.map (·.1)).toArray j↔Occ owner j:=by
   intro j
   constructor
   ·rintro⟨i,hi⟩
    rw[List.getElem?_toArray]at hi
    obtain⟨⟨j',k⟩,hx,rfl⟩:=List.mem_map.mp (List.mem_of_getElem? hi)
    exact⟨k,(hlive _).mp hx⟩
   ·rintro⟨k,hk⟩
    have:j∈live.map (·.1):=List.mem_map.mpr ⟨(j,k),(hlive _).mpr hk,rfl⟩
    obtain⟨i,hi⟩:=List.mem_iff_getElem?.mp this
    exact⟨i,by rw[List.getElem?_toArray];exact hi⟩
  refine⟨hm,rfl,by simp,jT (List.pairwise_map.mpr hpw),fun j hj=>?_,fun i j h hi hh=>?_⟩
  ·obtain⟨k,hk⟩:=(hL j).mp hj
   rcases Nat.lt_or_ge j (m+1) with q|q
   ·show j≤m;omega
   ·rw[Array.getElem?_eq_none (by rw[O.size];exact q)]at hk;cases hk
  ·replace hi:(live.map (·.1)).toArray[i]? = some j:=hi
   rw[List.getElem?_toArray,List.getElem?_map]at hi
   rw[show((live.map (·.2)).toArray.toList.map fun k=>hs.getD k 0)=live.map fun x=>hs.getD x.2 0 by simp[List.map_map,Function.comp_def],List.getElem?_map]at hh
   cases hx:live[i]? with
   |none=>rw[hx]at hi;cases hi
   |some x=>
    rw[hx]at hi hh
    obtain⟨j',k⟩:=x
    have:j'=j:=by simpa using hi
    subst this
    have hd:hs.getD k 0=h:=by simpa using hh
    have ho:=(hlive _).mp (List.mem_of_getElem? hx)
    have hk:=(O.at_ k j').mpr ho
    have hkl:k<hs.length:=by
     rw[←O.len]
     rcases Nat.lt_or_ge k sl.length with q|q
     ·exact q
     ·rw[List.getElem?_eq_none q]at hk;cases hk
    have hg:hs[k]? = some h:=by
     rw[List.getElem?_eq_getElem hkl,←hd];simp[List.getD,List.getElem?_eq_getElem hkl]
    obtain⟨n,a,b⟩:=O.reach j' k h ho hg
    exact⟨n,a,fun q hq=>(hL _).mpr (b q hq)⟩
theorem kv{α:Type}(es:Array α)(order:Array Nat)(hp:order.toList.Perm (List.range es.size)):
  (order.filterMap (es[·]?)).toList.Perm es.toList∧∀i:Nat,(order.filterMap (es[·]?))[i]? = (order[i]?).bind (es[·]?):=by
 have hall:∀k∈order.toList,k<es.size:=fun k hk=>List.mem_range.mp (hp.mem_iff.mp hk)
 have e0:(order.filterMap (es[·]?)).toList=order.toList.filterMap (es[·]?):=by simp
 constructor
 ·rw[e0]
  refine(hp.filterMap _).trans ?_
  have:(List.range es.size).filterMap (es[·]?)=es.toList:=by
   rw[show es.size=es.toList.length by simp]
   apply List.ext_getElem?
   intro i
   have key:∀(l:List α),(List.range l.length).filterMap (fun k=>l[k]?)=l:=by
    intro l
    induction l with
    |nil=>rfl
    |cons a l ih=>
     rw[List.length_cons,List.range_succ_eq_map,List.filterMap_cons]
     simp only[List.getElem?_cons_zero,List.filterMap_map]
     congr 1
   have e:=key es.toList
   simp only[Array.getElem?_toList]at e
   rw[e]
  rw[this]
 ·intro i
  rw[←Array.getElem?_toList,e0,←Array.getElem?_toList (xs:=order)]
  have key:∀(l:List Nat),(∀k∈l,k<es.size)→∀i:Nat,(l.filterMap (es[·]?))[i]? = (l[i]?).bind (es[·]?):=by
   intro l
   induction l with
   |nil=>intro _ i;simp
   |cons a l ih=>
    intro h i
    have ha:=h a (.head _)
    rw[List.filterMap_cons]
    simp only[Array.getElem?_eq_getElem ha]
    cases i with
    |zero=>simp[Array.getElem?_eq_getElem ha]
    |succ i=>simpa using ih (fun k hk=>h k (.tail _ hk)) i
  exact key _ hall i
end GS
namespace GS
open PySem PySem.SetTable
section
variable {prog:Program}{w:World}{A:Around}{E:Value→Shared→Prop}{s:Shared}
abbrev TK(prog:Program)(w:World)(h:Heap)(k:List Int)(b:Addr):Prop:=IsTupleKey (intKind prog w) h k b
abbrev hk(prog:Program)(w:World)(k:List Int):Int:=tupleKeyHash (intKind prog w) k
def Ent(prog:Program)(w:World)(h:Heap)(e:Int×Value)(k:List Int):Prop:=∃b,e.2=.ref b∧TK prog w h k b∧e.1=hk prog w k
theorem Ent.inj{h:Heap}{e:Int×Value}{k k':List Int}(x:Ent prog w h e k)(y:Ent prog w h e k'):k=k':=by
 obtain⟨b,e1,t1,_⟩:=x
 obtain⟨b',e2,t2,_⟩:=y
 rw[e1]at e2
 cases e2
 exact t1.inj t2
theorem km{ks:List Int}{vs:List Value}(h:ItemsAre (intKind prog w) ks vs):∀v∈vs,∃i t,v=.int i t:=by
 induction h with
 |nil=>intro v hv;simp at hv
 | @cons k v' ks vs h1 _ ih=>
  intro v hv
  rcases List.mem_cons.mp hv with rfl|hv
  ·cases v<;>first|exact⟨_,_,rfl⟩ | (simp[intKind,Value.isInt]at h1)
  ·exact ih v hv
theorem lH{k:List Int}{b:Addr}{Q:Bool→Shared→Prop}(hx:TK prog w s.heap k b)(h:Q false s):wpAny (model prog w) A (ofAClassStatement 8 (.ref b)) Q E s:=by
 have hT:=hx.typeIs
 obtain⟨o,items,n,ho,_,hd,hi⟩:=hx
 have hp:=km hi
 unfold ofAClassStatement
 refine wpAny_bind (wpAny_typeOf hT ?_)
 dsimp only
 have e1:((("tuple":String) == "tuple")=true):=by decide
 rw[if_pos e1]
 refine wpAny_bind (wpAny_pure ?_)
 simp only[Bool.not_true,Bool.false_eq_true,if_false]
 refine wpAny_bind (wpAny_seqItems ho hd ?_)
 dsimp only
 refine wpAny_bind ?_
 rw[←Array.forIn_toList]
 refine wpAny_forIn_list _ (fun rest r s'=>r.1=none∧s'=s∧∀v∈rest,∃i t,v=Value.int i t) _ ?_ ?_ _ _ ⟨rfl,rfl,hp⟩
 ·rintro v rest r s' ⟨hr,rfl,hall⟩
  obtain⟨i,t,rfl⟩:=hall v List.mem_cons_self
  refine wpAny_bind (m:=ofAClassStatement 7 (.int i t)) (wpAny_pure ?_)
  simp only[Bool.false_eq_true,if_false]
  exact wpAny_pure ⟨rfl,rfl,fun u hu=>hall u (List.mem_cons_of_mem _ hu)⟩
 ·rintro⟨r1,r2⟩ s' ⟨hr,rfl,_⟩
  simp only at hr
  subst hr
  exact wpAny_pure h
theorem yt{k:List Int}{x:Addr}{stored:List Value}{Q:Bool→Shared→Prop}(hx:TK prog w s.heap k x)(hs:∀v∈stored,∃k' b,v=.ref b∧TK prog w s.heap k' b)(h:Q false s):
  wpAny (model prog w) A (searchCouldBeSeen (.ref x) stored) Q E s:=by
 unfold searchCouldBeSeen
 refine wpAny_bind ?_
 refine wpAny_forIn_list _ (fun rest r s'=>r.1=none∧s'=s∧∀v∈rest,∃k' b,v=.ref b∧TK prog w s.heap k' b) _ ?_ ?_ _ _ ⟨rfl,rfl,hs⟩
 ·rintro v rest r s' ⟨hr,rfl,hall⟩
  obtain⟨k',b,rfl,hb⟩:=hall v List.mem_cons_self
  have hrest:∀u∈rest,∃k' b,u=.ref b∧TK prog w s'.heap k' b:=fun u hu=>hall u (List.mem_cons_of_mem _ hu)
  dsimp only
  by_cases e:(x==b)=true
  ·rw[if_pos (by rw[e];rfl)]
   exact wpAny_pure ⟨rfl,rfl,hrest⟩
  ·rw[if_neg (by simp[carriedByValue];simpa using e)]
   refine wpAny_bind (wpAny_eqIsQuiet_tuple hx ?_)
   simp only[Bool.not_true,Bool.false_eq_true,if_false]
   refine wpAny_bind (wpAny_eqIsQuiet_tuple hb ?_)
   simp only[Bool.not_true,Bool.false_eq_true,if_false]
   refine wpAny_bind (lH hx ?_)
   simp only[Bool.false_eq_true,if_false]
   refine wpAny_bind (lH hb ?_)
   simp only[Bool.false_eq_true,if_false]
   exact wpAny_pure ⟨rfl,rfl,hrest⟩
 ·rintro⟨r1,r2⟩ s' ⟨hr,rfl,_⟩
  simp only at hr
  subst hr
  exact wpAny_pure h
theorem qD{k:List Int}{x:Addr}{Q:Bool→Shared→Prop}(hx:TK prog w s.heap k x)(h:Q true s):wpAny (model prog w) A (hashByValue 8 (.ref x)) Q E s:=by
 have hT:=hx.typeIs
 obtain⟨o,items,n,ho,_,hd,hi⟩:=hx
 have hp:=km hi
 unfold hashByValue
 refine wpAny_bind (wpAny_specialOf hT F.slot_tuple_hash.lookup ?_)
 dsimp only
 refine wpAny_bind (wpAny_seqItems ho hd ?_)
 refine wpAny_bind ?_
 show wpAny _ _ (forIn items _ _) _ _ s
 rw[←Array.forIn_toList]
 refine wpAny_forIn_list _ (fun rest r s'=>r.1=none∧s'=s∧∀v∈rest,∃i t,v=Value.int i t) _ ?_ ?_ _ _ ⟨rfl,rfl,hp⟩
 ·rintro v rest r s' ⟨hr,rfl,hall⟩
  obtain⟨i,t,rfl⟩:=hall v List.mem_cons_self
  refine wpAny_bind (m:=hashByValue 7 (.int i t)) (wpAny_pure ?_)
  simp only[Bool.not_true,Bool.false_eq_true,if_false]
  exact wpAny_pure ⟨rfl,rfl,fun u hu=>hall u (List.mem_cons_of_mem _ hu)⟩
 ·rintro⟨r1,r2⟩ s' ⟨hr,rfl,_⟩
  simp only at hr
  subst hr
  exact wpAny_pure h
theorem TInv.fits{t:SetTable}{es:Array (Int×Value)}(T:TInv t (es.toList.map (·.1))):t.fits es.size=true:=by
 unfold SetTable.fits SetTable.fill
 rw[T.nd]
 have h1:=T.size
 have h2:=T.room
 simp only[List.length_map,Array.length_toList]at h1
 simp[h1]
 rcases T.mask with e|e|e<;>(rw[e]at h2 ⊢;rw[h1]at h2;omega)
theorem TInv.stays{t:SetTable}{hs:List Int}(T:TInv t hs):t.gaveWay=false:=by
 unfold SetTable.gaveWay
 rcases T.mask with e|e|e<;>(rw[e];decide)
theorem tU{a x:Addr}{k:List Int}{o:Obj}{es:Array (Int×Value)}{ep:Nat}{t:SetTable}(hu:A.units<cLine)(hx:TK prog w s.heap k x)(ho:s.heap.get? a=some o)(hd:o.data=.set es ep t)(T:TInv t (es.toList.map (·.1)))
  (he:∀e∈es.toList,∃k',Ent prog w s.heap e k') {N:Nat} (hN:¬ft t.place (steps t.mask N (startM t.mask (hk prog w k))).j) (hb:∀i,i<N→ft t.place (steps t.mask i (startM t.mask (hk prog w k))).j) (hN2:N<10*(t.mask+15))
  {Q:SetFound→Shared→Prop} (hf:(∃e∈es.toList,Ent prog w s.heap e k)→Q (.there none) s):
  ∀(fuel n:Nat)(stand:Option Probe),n≤N→N-n<fuel→stand.getD (t.probeStart (hk prog w k))=steps t.mask n (startM t.mask (hk prog w k)) →
   ((∀(m i:Nat)(e:Int×Value),n≤m→m<N→t.place[i]? = some (steps t.mask m (startM t.mask (hk prog w k))).j→es[i]? = some e→¬Ent prog w s.heap e k)→Q (.free (steps t.mask N (startM t.mask (hk prog w k))).j false) s) →
   wpAny (model prog w) A (setSearchFrom a (.ref x) (hk prog w k) true fuel stand) Q E s:=by
 intro fuel
 induction fuel with
 |zero=>intro n stand h1 h2;omega
 |succ fuel ih=>
  intro n stand h1 h2 hst hq
  unfold setSearchFrom
  refine wpAny_bind (wpAny_setState_of ho hd T.fits ?_)
  dsimp only
  rw[T.stays]
  simp only[Bool.false_eq_true,if_false]
  rw[hst]
  have P:=rj T (fun i=>(es[i]?.map (·.1)).getD 0) (hk prog w k) hN hb (10*turns t.mask) n h1 (by unfold turns;omega)
  have esz:t.place.size=es.size:=by have:=T.size;simpa using this
  have ent:∀{i j:Nat},t.place[i]? = some j→∃e,es[i]? = some e:=fun {i j} hi=>⟨_,Array.getElem?_eq_getElem (by rw[←esz];exact ja hi)⟩
  have notk:∀{i:Nat}{e:Int×Value},(fun i:Nat=>(es[i]?.map (·.1)).getD 0) i≠hk prog w k→es[i]? = some e→¬Ent prog w s.heap e k:=fun {i e} hne hi ⟨_,_,_,q⟩=>hne (by
   show(es[i]?.map (·.1)).getD 0=_
   rw[hi];exact q)
  rcases P with ⟨ep1,hall⟩|⟨m,i,hm1,hm2,hp,hh,hbef,ep1⟩
  ·have ep2:t.probe (fun i=>(es[i]?.map (·.1)).getD 0) (hk prog w k) (steps t.mask n (startM t.mask (hk prog w k)))=_:=ep1
   erw [ep2]
   dsimp only
   exact wpAny_pure (hq fun m i e h3 h4 h5 h6=>notk (hall m i h3 h4 h5) h6)
  ·have ep2:t.probe (fun i=>(es[i]?.map (·.1)).getD 0) (hk prog w k) (steps t.mask n (startM t.mask (hk prog w k)))=_:=ep1
   erw [ep2]
   dsimp only
   obtain⟨e,hei⟩:=ent hp
   have hem:e∈es.toList:=by rw[←Array.getElem?_toList]at hei;exact List.mem_of_getElem? hei
   obtain⟨k',b,eb,hbk,eh⟩:=he e hem
   have tail:wpAny (model prog w) A (do
     let some (_,y):=es[i]? | unsupported "internal:set-entry"
     let equal ←holding [y] (eqBool y (.ref x))
     let(es',_,t') ←setState a
     if true&&equal then return .there none
     let some same:=t'.sameMemory t.moves t.mask|unsupported "set.changed-during-lookup:is-the-new-block-at-the-old-address"
     let still ←match (if same then t'.slot (steps t.mask m (startM t.mask (hk prog w k))).j else .empty) with
      |.live i'=>match es'[i']? with
       |some (_,y')=>do pure (if ←isSame y' y then some i' else none)
       |none=>pure none
      |_=>pure none
     match still with
     |none=>rule "set.search.anew";setSearchFrom a (.ref x) (hk prog w k) true fuel none
     |some i'=>if equal then return .there (some i') else setSearchFrom a (.ref x) (hk prog w k) true fuel (some (steps t.mask (m+1) (startM t.mask (hk prog w k))))) Q E s:=by
    rw[hei]
    obtain⟨eh',ev⟩:=e
    simp only at eb
    subst eb
    dsimp only
    refine wpAny_bind (wpAny_holding (wpAny_eqBool_tuple hu hbk hx ?_))
    refine wpAny_bind (wpAny_setState_of ho hd T.fits ?_)
    dsimp only
    by_cases ek:k'=k
    ·subst ek
     simp only[decide_true,Bool.and_self,if_true]
     exact wpAny_pure (hf ⟨_,hem,b,rfl,hbk,eh⟩)
    ·simp only[decide_eq_false ek,Bool.and_false,Bool.false_eq_true,if_false]
     have em:t.sameMemory t.moves t.mask=some true:=by unfold SetTable.sameMemory;simp
     rw[em]
     dsimp only
     simp only[if_true]
     rw[eB T.rise hp]
     dsimp only
     rw[hei]
     dsimp only
     refine wpAny_bind (wpAny_isSame_ref_self (wpAny_bind (wpAny_pure ?_)))
     simp only[if_true]
     refine ih (m+1) _ hm2 (by omega) rfl fun hfree=>hq fun m' i' e' h3 h4 h5 h6=>?_
     rcases Nat.lt_or_ge m' m with q|q
     ·exact notk (hbef m' i' h3 q h5) h6
     ·by_cases q2:m'=m
      ·subst q2
       have:i'=i:=by
        have z1:=eB T.rise hp
        have z2:=eB T.rise h5
        rw[z1]at z2;cases z2;rfl
       subst this
       rw[hei]at h6
       cases h6
       exact fun z=>ek ((Ent.inj (prog:=prog) (w:=w) ⟨b,rfl,hbk,eh⟩ z))
      ·exact hfree m' i' e' (by omega) h4 h5 h6
   by_cases hl:t.led=true
   ·rw[hl]
    simp only[Bool.not_true,Bool.false_eq_true,if_false]
    exact tail
   ·have hl':t.led=false:=by simpa using hl
    rw[hl']
    simp only[Bool.not_false,if_true]
    refine wpAny_bind (yt hx (fun v hv=>?_) ?_)
    ·obtain⟨e',he',rfl⟩:=List.mem_map.mp hv
     have:e'∈es.toList:=by
      rw[Array.toList_filter]at he'
      exact(List.mem_filter.mp he').1
     obtain⟨k2,b2,e2,t2,_⟩:=he e' this
     exact⟨k2,b2,e2,t2⟩
    ·simp only[Bool.false_eq_true,if_false]
     exact tail
end
end GS
namespace GS
open PySem PySem.W PyProof.Rows
def kwp{α:Type}(lt:Nat→Nat→Bool)(n:Nat)(R:α→Prop):KasT α→Prop
 |.ret a=>R a
 |.ask i j k=>i<n∧j<n∧kwp lt n R (k (lt i j))
theorem fN{α β:Type}{lt:Nat→Nat→Bool}{n:Nat}{R:β→Prop}{f:α→KasT β}:∀(t:KasT α),kwp lt n (fun a=>kwp lt n R (f a)) t→kwp lt n R (t.bind f)
 |.ret a,h=>h
 |.ask i j k,h=>⟨h.1,h.2.1,fN (k (lt i j)) h.2.2⟩
theorem dI{α:Type}{lt:Nat→Nat→Bool}{n:Nat}{R R':α→Prop}(m:∀a,R a→R' a):∀(t:KasT α),kwp lt n R t→kwp lt n R' t
 |.ret a,h=>m a h
 |.ask i j k,h=>⟨h.1,h.2.1,dI m (k (lt i j)) h.2.2⟩
theorem wK{α:Type}{lt:Nat→Nat→Bool}{n:Nat}{cmp:Nat→Nat→(Bool→Shared→Prop)→Shared→Prop}{s:Shared}{R:α→Prop}{Q:α→Shared→Prop}
  (hc:∀i j C,i<n→j<n→C (lt i j) s→cmp i j C s) (hq:∀a,R a→Q a s):∀(t:KasT α),kwp lt n R t→t.kasWp cmp Q s
 |.ret a,h=>hq a h
 |.ask i j k,h=>hc i j _ h.1 h.2.1 (wK hc hq (k (lt i j)) h.2.2)
structure SOrd (lt:Nat→Nat→Bool) (n:Nat):Prop where
 irr:∀a,a<n→lt a a=false
 tr:∀a b c,a<n→b<n→c<n→lt b a=false→lt c b=false→lt c a=false
 tot:∀a b,a<n→b<n→a≠b→lt a b=false→lt b a=true
 asy:∀a b,a<n→b<n→lt a b=true→lt b a=false
abbrev gt(p:Array Nat)(i:Nat):Nat:=p.getD i 0
structure PIn (n:Nat) (p:Array Nat):Prop where
 perm:p.toList.Perm (List.range n)
 pos:0<n
theorem PIn.size{n:Nat}{p:Array Nat}(h:PIn n p):p.size=n:=by
 have:=h.perm.length_eq;simpa using this
theorem PIn.lt{n:Nat}{p:Array Nat}(h:PIn n p)(i:Nat):gt p i<n:=by
 unfold gt
 rcases Nat.lt_or_ge i p.size with q|q
 ·have:p[i]∈p.toList:=by simp
  have:=List.mem_range.mp (h.perm.mem_iff.mp this)
  simpa[Array.getD,q] using this
 ·simpa[Array.getD,Nat.not_lt.mpr q] using h.pos
theorem PIn.ne{n:Nat}{p:Array Nat}(h:PIn n p){i j:Nat}(hi:i<n)(hj:j<n)(hij:i≠j):gt p i≠gt p j:=by
 have hn:p.toList.Nodup:=h.perm.nodup_iff.mpr List.nodup_range
 have hs:=h.size
 intro e
 have e1:gt p i=p.toList[i]'(by simpa[hs] using hi):=by simp[gt,Array.getD,hs,hi]
 have e2:gt p j=p.toList[j]'(by simpa[hs] using hj):=by simp[gt,Array.getD,hs,hj]
 rw[e1,e2]at e
 have h1:i<p.toList.length:=by simpa[hs] using hi
 have h2:j<p.toList.length:=by simpa[hs] using hj
 rcases Nat.lt_or_ge i j with q|q
 ·exact List.pairwise_iff_getElem.mp hn i j h1 h2 q e
 ·exact List.pairwise_iff_getElem.mp hn j i h2 h1 (by omega) e.symm
def SS(lt:Nat→Nat→Bool)(p:Array Nat)(k:Nat):Prop:=∀i j,i<j→j<k→lt (gt p i) (gt p j)=true
def SD(lt:Nat→Nat→Bool)(p:Array Nat)(k:Nat):Prop:=∀i j,i<j→j<k→lt (gt p j) (gt p i)=true
section
variable {lt:Nat→Nat→Bool}{n:Nat}
theorem SOrd.trans(O:SOrd lt n){a b c:Nat}(ha:a<n)(hb:b<n)(hc:c<n)(h1:lt a b=true)(h2:lt b c=true):lt a c=true:=by
 have h3:=O.asy a b ha hb h1
 have h4:=O.asy b c hb hc h2
 have h5:=O.tr a b c ha hb hc h3 h4
 by_cases e:a=c
 ·subst e;rw[h1]at h4;cases h4
 ·exact O.tot c a hc ha (fun q=>e q.symm) h5
theorem SS.snoc(O:SOrd lt n){p:Array Nat}(P:PIn n p){k:Nat}(hk:1≤k)(h:SS lt p k)(hl:lt (gt p (k-1)) (gt p k)=true):SS lt p (k+1):=by
 intro i j hij hj
 rcases Nat.lt_or_ge j k with q|q
 ·exact h i j hij q
 ·have:j=k:=by omega
  subst this
  by_cases e:i=j-1
  ·subst e;exact hl
  ·exact O.trans (P.lt _) (P.lt _) (P.lt _) (h i (j-1) (by omega) (by omega)) hl
theorem SD.snoc(O:SOrd lt n){p:Array Nat}(P:PIn n p){k:Nat}(hk:1≤k)(h:SD lt p k)(hl:lt (gt p k) (gt p (k-1))=true):SD lt p (k+1):=by
 intro i j hij hj
 rcases Nat.lt_or_ge j k with q|q
 ·exact h i j hij q
 ·have:j=k:=by omega
  subst this
  by_cases e:i=j-1
  ·subst e;exact hl
  ·exact O.trans (P.lt _) (P.lt _) (P.lt _) hl (h i (j-1) (by omega) (by omega))
theorem r6(O:SOrd lt n){p:Array Nat}(P:PIn n p):∀(f a:Nat),1≤a→a+f≤n→SS lt p a →
  kwp lt n (fun m=>a≤m∧m≤a+f∧SS lt p m∧(m=a+f∨lt (gt p m) (gt p (m-1))=true)) (kas_asc p f a)
 |0,a,_,_,h=>⟨Nat.le_refl _,Nat.le_refl _,h,.inl rfl⟩
 |f+1,a,h1,h2,h=>by
  refine⟨P.lt _,P.lt _,?_⟩
  cases hc:lt (p.getD a 0) (p.getD (a-1) 0) with
  |true=>exact⟨Nat.le_refl _,by omega,h,.inr hc⟩
  |false=>
   have hl:lt (gt p (a-1)) (gt p a)=true:=O.tot _ _ (P.lt _) (P.lt _) (P.ne (by omega) (by omega) (by omega)) hc
   refine dI (fun m hm=>?_) _ (r6 O P f (a+1) (by omega) (by omega) (h.snoc O P h1 hl))
   exact⟨by omega,by omega,hm.2.2.1,hm.2.2.2.elim (fun q=>.inl (by omega)) .inr⟩
theorem ti(O:SOrd lt n){p:Array Nat}(P:PIn n p):∀(f a:Nat),1≤a→a+f≤n→SD lt p a →
  kwp lt n (fun r=>r.1=p∧r.2.2=0∧a≤r.2.1∧r.2.1≤a+f∧SD lt p r.2.1) (kas_desc f p a 0)
 |0,a,_,_,h=>⟨rfl,rfl,Nat.le_refl _,Nat.le_refl _,h⟩
 |f+1,a,h1,h2,h=>by
  refine⟨P.lt _,P.lt _,?_⟩
  cases hc:lt (p.getD a 0) (p.getD (a-1) 0) with
  |true=>
   dsimp only
   rw[if_pos rfl,if_neg (by omega)]
   refine dI (fun m hm=>?_) _ (ti O P f (a+1) (by omega) (by omega) (h.snoc O P h1 hc))
   exact⟨hm.1,hm.2.1,by omega,by omega,hm.2.2.2.2⟩
  |false=>
   dsimp only
   rw[if_neg (by simp)]
   refine⟨P.lt _,P.lt _,?_⟩
   have hl:lt (gt p (a-1)) (gt p a)=true:=O.tot _ _ (P.lt _) (P.lt _) (P.ne (by omega) (by omega) (by omega)) hc
   have hl':lt (p.getD (a-1) 0) (p.getD a 0)=true:=hl
   rw[hl']
   dsimp only
   rw[if_pos rfl]
   exact⟨rfl,rfl,Nat.le_refl _,Nat.le_add_right _ _,h⟩
theorem sS{p q:Array Nat}{i j:Nat}(h:p[i]? = q[j]?):gt p i=gt q j:=by
 unfold gt;rw[Array.getD_eq_getD_getElem?,Array.getD_eq_getD_getElem?,h]
theorem vx{p:Array Nat}(P:PIn n p)(i j:Nat):PIn n (kas_rev p i j):=
 ⟨(Array.perm_iff_toList_perm.mp (mirror_perm p i j _)).trans P.perm,P.pos⟩
theorem rd{p:Array Nat}(P:PIn n p){m:Nat}(hm:m≤n)(h:SD lt p m):SS lt (kas_rev p 0 m) m:=by
 intro i j hij hj
 have e:∀k,k<m→gt (kas_rev p 0 m) k=gt p (m-1-k):=fun k hk=>sS (by
  unfold kas_rev
  rw[getElem?_mirror_all (by rw[P.size];exact hm),if_pos ⟨Nat.zero_le _,hk⟩,Nat.zero_add])
 rw[e i (by omega),e j (by omega)]
 exact h _ _ (by omega) (by omega)
theorem xx(O:SOrd lt n){p:Array Nat}(P:PIn n p)(h2:2≤n):
  kwp lt n (fun r=>PIn n r.2∧1≤r.1∧r.1≤n∧SS lt r.2 r.1) (kas_count n p):=by
 unfold kas_count
 refine fN _ (dI (fun m hm=>?_) _ (r6 O P (n-1) 1 (Nat.le_refl _) (by omega) (fun i j h1 h2=>by omega)))
 obtain⟨m1,m2,ms,mx⟩:=hm
 by_cases e:(m==n)=true
 ·rw[if_pos e]
  exact⟨P,m1,by omega,ms⟩
 ·rw[if_neg e]
  have hne:m≠n:=by simpa using e
  by_cases g:m>1
  ·rw[if_pos g]
   refine⟨P.lt _,P.lt _,?_⟩
   have hl:lt (p.getD 0 0) (p.getD (m-1) 0)=true:=ms 0 (m-1) (by omega) (by omega)
   rw[hl]
   dsimp only
   rw[if_pos rfl]
   exact⟨P,m1,by omega,ms⟩
  ·rw[if_neg g]
   have:m=1:=by omega
   subst this
   have hd:lt (gt p 1) (gt p 0)=true:=by
    rcases mx with q|q
    ·omega
    ·exact q
   unfold kas_descPart
   refine fN _ (dI (fun r hr=>?_) _ (ti O P (n-(1+1)) (1+1) (by omega) (by omega) ?_))
   ·obtain⟨r1,r2,r3,r4,r5⟩:=hr
    rw[if_neg (by omega)]
    unfold kas_tail3
    rw[r1]
    refine fN _ (dI (fun k hk=>?_) _ (r6 O (vx P 0 r.2.1) (n-r.2.1) r.2.1 (by omega) (by omega) (rd P (by omega) r5)))
    exact⟨vx P 0 r.2.1,by omega,by omega,hk.2.2.1⟩
   ·intro i j hij hj
    have:i=0∧j=1:=by omega
    rw[this.1,this.2];exact hd
theorem lC(O:SOrd lt n){p:Array Nat}(P:PIn n p){k:Nat}(hk:k<n)(h:SS lt p k):∀(f l r:Nat),r-l≤f→l≤r→r≤k →
  (∀i,i<l→lt (gt p i) (gt p k)=true)→(∀i,r≤i→i<k→lt (gt p k) (gt p i)=true) →
  kwp lt n (fun m=>m≤k∧(∀i,i<m→lt (gt p i) (gt p k)=true)∧∀i,m≤i→i<k→lt (gt p k) (gt p i)=true) (kas_place p k f l r)
 |0,l,r,h1,h2,h3,hlo,hhi=>by
  have:l=r:=by omega
  subst this
  exact⟨h3,hlo,hhi⟩
 |f+1,l,r,h1,h2,h3,hlo,hhi=>by
  unfold kas_place
  by_cases g:l≥r
  ·rw[if_pos g]
   have:l=r:=by omega
   subst this
   exact⟨h3,hlo,hhi⟩
  ·rw[if_neg g]
   refine⟨P.lt _,P.lt _,?_⟩
   cases hc:lt (p.getD k 0) (p.getD ((l+r) / 2) 0) with
   |true=>
    dsimp only
    rw[if_pos rfl]
    refine lC O P hk h f l ((l+r) / 2) (by omega) (by omega) (by omega) hlo fun i hi hik=>?_
    by_cases e:i=(l+r) / 2
    ·subst e;exact hc
    ·exact O.trans (P.lt _) (P.lt _) (P.lt _) hc (h _ _ (by omega) hik)
   |false=>
    dsimp only
    rw[if_neg (by simp)]
    have hl:lt (gt p ((l+r) / 2)) (gt p k)=true:=O.tot _ _ (P.lt _) (P.lt _) (P.ne (by omega) (by omega) (by omega)) hc
    refine lC O P hk h f ((l+r) / 2+1) r (by omega) (by omega) h3 (fun i hi=>?_) hhi
    by_cases e:i=(l+r) / 2
    ·subst e;exact hl
    ·exact O.trans (P.lt _) (P.lt _) (P.lt _) (h i _ (by omega) (by omega)) hl
theorem xM(O:SOrd lt n):∀(f k:Nat)(p:Array Nat),PIn n p→k+f=n→SS lt p k→kwp lt n (fun q=>PIn n q∧SS lt q n) (kas_bin f p k)
 |0,k,p,P,e,h=>by
  have:k=n:=by omega
  subst this
  exact⟨P,h⟩
 |f+1,k,p,P,e,h=>by
  have hk:k<n:=by omega
  refine fN _ (dI (fun l hl=>?_) _ (lC O P hk h k 0 k (by omega) (by omega) (Nat.le_refl _) (fun i hi=>by omega) (fun i h1 h2=>by omega)))
  obtain⟨h1,h2,h3⟩:=hl
  refine xM O f (k+1) _ ⟨(Array.perm_iff_toList_perm.mp (bubble_perm p k _)).trans P.perm,P.pos⟩ (by omega) ?_
  have eb:∀i:Nat,gt (bubble p k (k-l)) i=if i=l then gt p k else if l<i∧i≤k then gt p (i-1) else gt p i:=fun i=>by
   have:=getElem?_bubble (xs:=p) (src:=k) (by rw[P.size];exact hk) (k-l) (by omega) i
   rw[show k-(k-l)=l by omega]at this
   by_cases q1:i=l
   ·rw[if_pos q1]at this ⊢;exact sS this
   ·rw[if_neg q1]at this ⊢
    by_cases q2:l<i∧i≤k
    ·rw[if_pos q2]at this ⊢;exact sS this
    ·rw[if_neg q2]at this ⊢;exact sS this
  intro i j hij hj
  rw[eb i,eb j]
  repeat' split
  all_goals first
   | (exfalso; omega)
   |exact h2 _ (by omega)
   |exact h3 _ (by omega) (by omega)
   |exact h _ _ (by omega) (by omega)
theorem yp(O:SOrd lt n)(h2:2≤n):kwp lt n (fun q=>PIn n q∧SS lt q n) (kas_sort n):=by
 unfold kas_sort
 refine fN _ (dI (fun r hr=>?_) _ (xx O ⟨by simp,by omega⟩ h2))
 obtain⟨P,r1,r2,rs⟩:=hr
 by_cases g:r.1<n
 ·rw[if_pos g]
  have:max r.1 1=r.1:=by omega
  rw[this]
  exact xM O _ _ _ P (by omega) rs
 ·rw[if_neg g]
  have:r.1=n:=by omega
  rw[this]at rs
  exact⟨P,rs⟩
end
end GS
namespace GS
open PySem PySem.SetTable
section
variable {prog:Program}{w:World}{A:Around}{E:Value→Shared→Prop}{s:Shared}{U:Value→Prop}
theorem TK.same{h h':Heap}{k:List Int}{b a:Addr}{o:Obj}{es:Array (Int×Value)}{ep:Nat}{t:SetTable}(x:TK prog w h k b)(ho:h.get? a=some o)(hd:o.data=.set es ep t)(hs:Heap.SameBut a h h'):TK prog w h' k b:=by
 obtain⟨o',items,n,ho',hc,hd',hi⟩:=x
 have hne:b≠a:=by
  rintro rfl
  rw[ho']at ho
  cases ho
  rw[hd]at hd';exact nomatch hd'
 exact⟨o',items,n,(hs.2 b hne).trans ho',hc,hd',hi⟩
theorem Ent.same{h h':Heap}{e:Int×Value}{k:List Int}{a:Addr}{o:Obj}{es:Array (Int×Value)}{ep:Nat}{t:SetTable}(x:Ent prog w h e k)(ho:h.get? a=some o)(hd:o.data=.set es ep t)(hs:Heap.SameBut a h h'):Ent prog w h' e k:=
 let⟨b,e1,t1,e2⟩:=x;⟨b,e1,TK.same t1 ho hd hs,e2⟩
def cM (es:Array (Int×Value)) (ep:Nat) (t:SetTable):Obj:={ cls:=.type "set",dict:=none,data:=.set es ep t }
structure SGI (prog:Program) (w:World) (U:Value→Prop) (h:Heap) (es:Array (Int×Value)) (t:SetTable) (M:List (List Int)):Prop where
 tab:TInv t (es.toList.map (·.1))
 led:t.led = !w.params.followText "set-order"
 plain:t.plain=true
 size:es.size≤M.length
 sub:∀e∈es.toList,∃k,k∈M∧Ent prog w h e k
 all:∀k∈M,∃e,e∈es.toList∧Ent prog w h e k
 dist:es.toList.Pairwise fun e e'=>∀k,Ent prog w h e k→¬Ent prog w h e' k
 good:∀e∈es.toList,U e.2
def SG(prog:Program)(w:World)(U:Value→Prop)(h:Heap)(a:Addr)(M:List (List Int)):Prop:=∃es ep t,h.get? a=some (cM es ep t)∧SGI prog w U h es t M
theorem SGI.same{h h':Heap}{es:Array (Int×Value)}{t:SetTable}{M:List (List Int)}{a:Addr}{o:Obj}{es0:Array (Int×Value)}{ep:Nat}{t0:SetTable}(S:SGI prog w U h es t M)(ho:h.get? a=some o)(hd:o.data=.set es0 ep t0)(hs:Heap.SameBut a h h')(ho':∃o',h'.get? a=some o'∧∃es1 ep1 t1,o'.data=.set es1 ep1 t1):SGI prog w U h' es t M:=by
 obtain⟨o',ho',es1,ep1,t1,hd'⟩:=ho'
 have back:∀{e k},Ent prog w h' e k→Ent prog w h e k:=fun {e k} x=>x.same ho' hd' ⟨hs.1.symm,fun b hb=>(hs.2 b hb).symm⟩
 exact⟨S.tab,S.led,S.plain,S.size,fun e he=>let⟨k,a,b⟩:=S.sub e he;⟨k,a,b.same ho hd hs⟩,fun k hk=>let⟨e,a,b⟩:=S.all k hk;⟨e,a,b.same ho hd hs⟩,
  S.dist.imp fun q k x y=>q k (back x) (back y),S.good⟩
theorem stored{h:Heap}{a:Addr}{es:Array (Int×Value)}{ep:Nat}{t:SetTable}(ho:h.get? a=some (cM es ep t))(es':Array (Int×Value))(t':SetTable):
  (h.update a (Obj.putSet es' t')).get? a=some (cM es' (ep+1) t'):=by
 have:=Heap.get?_update_self (Obj.putSet es' t') ho (by rw[putSet_of (ep:=ep) (es:=es) (t:=t) es' t' rfl];rfl)
 rw[putSet_of (ep:=ep) (es:=es) (t:=t) es' t' rfl]at this
 exact this
theorem rG(es:Array (Int×Value))(p:Nat)(e:Int×Value):(insertAt es p e).toList.map (·.1)=(insertAt (es.map (·.1)) p e.1).toList:=by
 rw[cu,cu]
 simp[List.map_take,List.map_drop]
theorem rN{m n:Nat}(hm:fi m)(h1:n*5<m*3)(h2:m*3≤(n+1)*5)(h3:n<63):
  fi (sizeAbove (grown (n+1))-1)∧(n+1)*5<(sizeAbove (grown (n+1))-1)*3∧sizeAbove (grown (n+1))≤sizeLine:=by
 rcases hm with rfl|rfl|rfl
 ·have:n=4:=by omega
  subst this
  exact⟨.inr (.inl (by decide)),by decide,by decide⟩
 ·have:n=18:=by omega
  subst this
  exact⟨.inr (.inr (by decide)),by decide,by decide⟩
 ·omega
theorem CO{a x:Addr}{k:List Int}{M:List (List Int)}{Q:Bool→Shared→Prop}(hu:A.units<cLine)(hS:SG prog w U s.heap a M)(hU:U (.ref x))(hx:TK prog w s.heap k x)(hM:M.length<63)
  (hQ:∀(b:Bool)(h':Heap),Heap.SameBut a s.heap h'→SG prog w U h' a (M++[k])→Q b { s with heap:=h' }):wpAny (model prog w) A (setAddHashed a (.ref x) (hk prog w k)) Q E s:=by
 obtain⟨es,ep,t,ho,S⟩:=hS
 have T:=S.tab
 have hd:(cM es ep t).data=.set es ep t:=rfl
 have esz:t.place.size=es.size:=by have:=T.size;simpa using this
 obtain⟨N,hN2,hN,hb⟩:=rP T (hk prog w k)
 have hmask:t.mask≤127:=by rcases T.mask with e|e|e<;>omega
 unfold setAddHashed setAddHashedIn
 refine wpAny_holding (wpAny_bind (wpAny_setState_of ho hd T.fits ?_))
 dsimp only
 have hsc:byScan (.ref x) es=false:=rfl
 rw[hsc]
 simp only[Bool.false_eq_true,if_false]
 unfold setSearch
 refine wpAny_bind (tU hu hx ho hd T (fun e he=>let⟨k',_,q⟩:=S.sub e he;⟨k',q⟩) hN hb hN2 (fun hf=>?_) 100000 0 none (Nat.zero_le _) (by omega) rfl fun hfree=>?_)
 ·-- it is there
  dsimp only
  obtain⟨e,he,hek⟩:=hf
  refine wpAny_pure ?_
  have:=hQ false s.heap (Heap.SameBut.refl a s.heap) ⟨es,ep,t,ho,T,S.led,S.plain,by rw[List.length_append];exact Nat.le_trans S.size (Nat.le_add_right _ _),fun e he=>let⟨k',q1,q2⟩:=S.sub e he;⟨k',List.mem_append_left _ q1,q2⟩,fun k' hk'=>by
   rcases List.mem_append.mp hk' with q|q
   ·exact S.all k' q
   ·simp at q;subst q;exact⟨e,he,hek⟩,S.dist,S.good⟩
  exact this
 ·-- it is new
  dsimp only
  have hnew:∀e∈es.toList,¬Ent prog w s.heap e k:=fun e he hek=>by
   obtain⟨i,hi⟩:=List.mem_iff_getElem?.mp he
   rw[Array.getElem?_toList]at hi
   have hil:=ja hi
   obtain⟨j,hj⟩:∃j,t.place[i]? = some j:=⟨_,Array.getElem?_eq_getElem (by rw[esz];exact hil)⟩
   obtain⟨_,_,_,eh⟩:=id hek
   obtain⟨n,hn,hlive⟩:=T.reach i j (hk prog w k) hj (by rw[List.getElem?_map,Array.getElem?_toList,hi];exact congrArg some eh)
   have hlt:n<N:=by
    rcases Nat.lt_trichotomy n N with q|q|q
    ·exact q
    ·subst q;exact absurd ⟨i,by rw[hn];exact hj⟩ hN
    ·exact absurd (hlive N q) hN
   exact hfree n i e (Nat.zero_le _) hlt (by rw[hn];exact hj) hi hek
  refine wpAny_bind (wpAny_setState_of ho hd T.fits ?_)
  dsimp only
  rw[Bo T.nd]
  dsimp only
  rw[if_pos S.plain]
  refine wpAny_bind (qD hx ?_)
  try dsimp only
  simp only[if_true]
  generalize hj:(steps t.mask N (startM t.mask (hk prog w k))).j=j at *
  have hbs:=(cX t.place j T.rise).2.2
  have TP:TPre { t with place:=insertAt t.place (below t.place j) j } ((insertAt es (below t.place j) (hk prog w k,Value.ref x)).toList.map (·.1)):=by
   rw[rG]
   have T':TInv t (es.map (·.1)).toList:=by rw[Array.toList_map];exact T
   have:=yR T' (hk prog w k) (N:=N) (by rw[hj];exact hN) hb
   rw[hj]at this
   exact this
  have hsz':(insertAt es (below t.place j) (hk prog w k,Value.ref x)).size=es.size+1:=cP es (by rw[←esz];exact hbs) _
  have hperm:=insertAt_perm es (p:=below t.place j) (hk prog w k,Value.ref x)
  have hsl:es.size+1≤sizeLine:=by have:=S.size;rw[sizeLine_eq];omega
  have hsb:=Heap.SameBut.update s.heap a (Obj.putSet (insertAt es (below t.place j) (hk prog w k,Value.ref x)) { t with place:=insertAt t.place (below t.place j) j })
  have entk:Ent prog w s.heap (hk prog w k,Value.ref x) k:=⟨x,rfl,hx,rfl⟩
  have good:∀(es2:Array (Int×Value))(t2:SetTable),es2.toList.Perm (insertAt es (below t.place j) (hk prog w k,Value.ref x)).toList→TInv t2 (es2.toList.map (·.1))→t2.led=t.led→t2.plain=true→SGI prog w U s.heap es2 t2 (M++[k]):=by
   intro es2 t2 hp T2 hl2 hpl2
   have hp2:=hp.trans hperm
   refine⟨T2,hl2.trans S.led,hpl2,?_,fun e he=>?_,fun k' hk'=>?_,?_,fun e he=>?_⟩
   ·have:=hp2.length_eq
    simp only[Array.length_toList,List.length_cons]at this
    rw[List.length_append,List.length_singleton,this]
    have:=S.size;omega
   ·rcases List.mem_cons.mp (hp2.mem_iff.mp he) with rfl|he
    ·exact⟨k,by simp,entk⟩
    ·obtain⟨k',q1,q2⟩:=S.sub e he
     exact⟨k',List.mem_append_left _ q1,q2⟩
   ·rcases List.mem_append.mp hk' with q|q
    ·obtain⟨e,he,q2⟩:=S.all k' q
     exact⟨e,hp2.mem_iff.mpr (List.mem_cons_of_mem _ he),q2⟩
    ·simp at q;subst q
     exact⟨_,hp2.mem_iff.mpr List.mem_cons_self,entk⟩
   ·refine(hp2.pairwise_iff (fun {e e'} q k' x1 x2=>q k' x2 x1)).mpr (List.pairwise_cons.mpr ⟨fun e he k' x1 x2=>?_,S.dist⟩)
    have:=entk.inj x1
    subst this
    exact hnew e he x2
   ·rcases List.mem_cons.mp (hp2.mem_iff.mp he) with rfl|he
    ·exact hU
    ·exact S.good e he
  refine wpAny_bind (wpAny_storeSet_of ho hd ?_ (by rw[hsz'];exact hsl))
  have ho1:=stored ho (insertAt es (below t.place j) (hk prog w k,Value.ref x)) { t with place:=insertAt t.place (below t.place j) j }
  by_cases hfull:({ t with place:=insertAt t.place (below t.place j) j }:SetTable).tooFull=true
  ·rw[hfull]
   simp only[Bool.not_false,Bool.and_self,if_true]
   have hfu:t.mask*3≤(es.size+1)*5:=by
    unfold SetTable.tooFull SetTable.fill at hfull
    simp only[T.nd,List.size_toArray,List.length_nil,Nat.add_zero,ge_iff_le,decide_eq_true_eq]at hfull
    rw[cP _ hbs,esz]at hfull
    exact hfull
   obtain⟨gm1,gm2,gm3⟩:=rN T.mask (by rw[←esz];exact T.room) hfu (by have:=S.size;omega)
   have hlen:((insertAt es (below t.place j) (hk prog w k,Value.ref x)).toList.map (·.1)).length=es.size+1:=by rw[List.length_map,Array.length_toList,hsz']
   obtain⟨t2,order,el,em,eled,epl,eperm,TP2⟩:=zB gm1 t.finger (({ t with place:=insertAt t.place (below t.place j) j }:SetTable).movedTo (sizeAbove (grown (es.size+1))-1)) t.led t.plain ((insertAt es (below t.place j) (hk prog w k,Value.ref x)).toList.map (·.1)) (by rw[hlen];omega)
   rw[hlen]at eperm
   have hf1:({ t with place:=insertAt t.place (below t.place j) j }:SetTable).fits (insertAt es (below t.place j) (hk prog w k,Value.ref x)).size=true:=by
    have hmm:es.size*5<t.mask*3:=by rw[←esz];exact T.room
    unfold SetTable.fits SetTable.fill
    simp only[T.nd,List.size_toArray,List.length_nil,Nat.add_zero,Bool.and_eq_true,beq_iff_eq,decide_eq_true_eq]
    rw[cP _ hbs,hsz',esz]
    refine⟨rfl,?_⟩
    rcases T.mask with e|e|e<;>omega
   unfold setRelay
   refine wpAny_bind (wpAny_bind (wpAny_setState_of ho1 rfl hf1 ?_))
   dsimp only
   rw[if_neg (Nat.not_lt.mpr gm3)]
   have hrel:({ t with place:=insertAt t.place (below t.place j) j }:SetTable).relaid ((insertAt es (below t.place j) (hk prog w k,Value.ref x)).map (·.1)) (grown (es.size+1))=some (t2,order):=by
    unfold SetTable.relaid
    rw[←el]
    congr 1
    rw[←Array.toList_map,Array.toArray_toList]
   rw[hrel]
   obtain⟨fp1,fp2⟩:=kv (insertAt es (below t.place j) (hk prog w k,Value.ref x)) order (by rw[hsz'];exact eperm)
   have fsz:(order.filterMap ((insertAt es (below t.place j) (hk prog w k,Value.ref x))[·]?)).size=es.size+1:=by
    have:=fp1.length_eq
    rw[Array.length_toList,Array.length_toList,hsz']at this
    exact this
   have hhs:(order.filterMap ((insertAt es (below t.place j) (hk prog w k,Value.ref x))[·]?)).toList.map (·.1)=order.toList.map fun q=>((insertAt es (below t.place j) (hk prog w k,Value.ref x)).toList.map (·.1)).getD q 0:=by
    apply List.ext_getElem?
    intro i
    rw[List.getElem?_map,Array.getElem?_toList,fp2 i,List.getElem?_map,Array.getElem?_toList]
    cases hoi:order[i]? with
    |none=>rfl
    |some q=>
     have hq:q<es.size+1:=by
      have:q∈order.toList:=by rw[←Array.getElem?_toList]at hoi;exact List.mem_of_getElem? hoi
      exact List.mem_range.mp (eperm.mem_iff.mp this)
     show Option.map _ ((insertAt es (below t.place j) (hk prog w k,Value.ref x))[q]?)=some _
     have hq2:q<(insertAt es (below t.place j) (hk prog w k,Value.ref x)).size:=by rw[hsz'];exact hq
     dsimp only
     rw[Array.getElem?_eq_getElem hq2,List.getD_eq_getElem?_getD,List.getElem?_map,Array.getElem?_toList,Array.getElem?_eq_getElem hq2]
     rfl
   have T2:TInv t2 ((order.filterMap ((insertAt es (below t.place j) (hk prog w k,Value.ref x))[·]?)).toList.map (·.1)):=by
    rw[hhs]
    refine TP2.full ?_
    have h1:=TP2.size
    rw[List.length_map,eperm.length_eq,List.length_range]at h1
    rw[h1,em];exact gm2
   show wpAny _ _ (do
    let(es,t) ←(do
     if ((order.filterMap ((insertAt es (below t.place j) (hk prog w k,Value.ref x))[·]?)).size != (insertAt es (below t.place j) (hk prog w k,Value.ref x)).size)=true then unsupported "internal:set-table-lost-an-element"
     pure ((order.filterMap ((insertAt es (below t.place j) (hk prog w k,Value.ref x))[·]?)),t2))
    storeSet a es t) _ _ _
   rw[fsz,hsz']
   simp only[bne_self_eq_false,Bool.false_eq_true,if_false]
   refine wpAny_bind (wpAny_bind (wpAny_pure (wpAny_pure ?_)))
   dsimp only
   refine wpAny_storeSet_of ho1 rfl ?_ (by rw[fsz];exact hsl)
   refine wpAny_pure ?_
   have hsb2:=hsb.trans (Heap.SameBut.update _ a (Obj.putSet (order.filterMap ((insertAt es (below t.place j) (hk prog w k,Value.ref x))[·]?)) t2))
   have ho2:=stored ho1 (order.filterMap ((insertAt es (below t.place j) (hk prog w k,Value.ref x))[·]?)) t2
   exact hQ true _ hsb2 ⟨_,_,_,ho2,(good _ t2 fp1 T2 eled (epl.trans S.plain)).same ho hd hsb2 ⟨_,ho2,_,_,_,rfl⟩⟩
  ·have hfull':({ t with place:=insertAt t.place (below t.place j) j }:SetTable).tooFull=false:=by simpa using hfull
   rw[hfull']
   simp only[Bool.and_false,Bool.false_eq_true,if_false]
   refine wpAny_pure ?_
   have T1:TInv { t with place:=insertAt t.place (below t.place j) j } ((insertAt es (below t.place j) (hk prog w k,Value.ref x)).toList.map (·.1)):=by
    refine TP.full ?_
    unfold SetTable.tooFull SetTable.fill at hfull
    simp only[T.nd,List.size_toArray,List.length_nil,Nat.add_zero,ge_iff_le,decide_eq_true_eq]at hfull
    exact Nat.not_le.mp hfull
   exact hQ true _ hsb ⟨_,_,_,ho1,(good _ _ (List.Perm.refl _) T1 rfl S.plain).same ho hd hsb ⟨_,ho1,_,_,_,rfl⟩⟩
end
end GS
namespace GS
open PySem PySem.SetTable
section
variable {prog:Program}{w:World}{A:Around}{E:Value→Shared→Prop}{s:Shared}{U:Value→Prop}
theorem TK.keep {h h':Heap} {k:List Int} {b:Addr} {wr:List Addr} (x:TK prog w h k b) (hk:∀c o,c∉wr→h.get? c=some o→h'.get? c=some o) (hw:∀c∈wr,∃o,h.get? c=some o∧o.cls≠.type "tuple"):TK prog w h' k b:=by
 obtain⟨o,items,n,ho,hc,hd,hi⟩:=x
 refine⟨o,items,n,hk b o (fun hb=>?_) ho,hc,hd,hi⟩
 obtain⟨o',ho',hne⟩:=hw b hb
 rw[ho]at ho'
 cases ho'
 exact hne hc
theorem SGI.keep {h h':Heap} {es:Array (Int×Value)} {t:SetTable} {M:List (List Int)} {wr:List Addr} (S:SGI prog w U h es t M) (hk:∀c o,c∉wr→h.get? c=some o→h'.get? c=some o) (hw:∀c∈wr,∃o,h.get? c=some o∧o.cls≠.type "tuple"):SGI prog w U h' es t M:=by
 have fwd:∀{e k},Ent prog w h e k→Ent prog w h' e k:=fun {e k} ⟨b,e1,t1,e2⟩=>⟨b,e1,t1.keep hk hw,e2⟩
 refine⟨S.tab,S.led,S.plain,S.size,fun e he=>let⟨k,a,b⟩:=S.sub e he;⟨k,a,fwd b⟩,fun k hk'=>let⟨e,a,b⟩:=S.all k hk';⟨e,a,fwd b⟩,?_,S.good⟩
 refine(List.Pairwise.and_mem.mp S.dist).imp fun {e e'} q k x y=>?_
 obtain⟨k1,_,z1⟩:=S.sub e q.1
 obtain⟨k2,_,z2⟩:=S.sub e' q.2.1
 have i1:=(fwd z1).inj x
 have i2:=(fwd z2).inj y
 subst i1;subst i2
 exact q.2.2 _ z1 z2
theorem SG.keep {h h':Heap} {a:Addr} {M:List (List Int)} {wr:List Addr} (S:SG prog w U h a M) (ha:a∉wr) (hk:∀c o,c∉wr→h.get? c=some o→h'.get? c=some o) (hw:∀c∈wr,∃o,h.get? c=some o∧o.cls≠.type "tuple"):SG prog w U h' a M:=
 let⟨es,ep,t,ho,S⟩:=S;⟨es,ep,t,hk a _ ha ho,S.keep hk hw⟩
theorem SG.new (h:Heap):SG prog w U (h.push (cM #[] 0 (.fresh 0 0 (!w.params.followText "set-order")))) h.objs.size []:=by
 refine⟨#[],0,_,Heap.get?_push_size _ rfl,⟨⟨.inl rfl,rfl,rfl,fun i j a b _ ha=>by simp[SetTable.fresh]at ha,fun j ⟨i,hi⟩=>by simp[SetTable.fresh]at hi,by show 0*5<7*3;decide,fun i j h hi=>by simp[SetTable.fresh]at hi⟩,rfl,rfl,Nat.le_refl _,fun e he=>by simp at he,fun k hk=>by simp at hk,by simp,fun e he=>by simp at he⟩⟩
theorem uK{R:Result→Shared→Prop}{it S:Addr}{fp wr:List Addr}{G:Array GenState→Array GenState→Prop}{n:Nat}{P:Nat→Value→Prop}{St:Nat→Shared→Prop}(W:WalksS prog w A.in1 it fp wr G n P St)(hu:A.in1.units<cLine)
  (hSf:S∉fp) (hw:∀i s,St i s→∀c∈wr,∃o,s.heap.get? c=some o∧o.cls≠.type "tuple") {ks:List (List Int)} (hl:ks.length=n) (h63:n≤63)
  (TT:Heap→Prop) (hTT:∀h,TT h→∀i v,P i v→U v∧∃b k,v=.ref b∧ks[i]? = some k∧TK prog w h k b)
  (hTk:∀(h h':Heap) (wr':List Addr),TT h→(∀c o,c∉wr'→h.get? c=some o→h'.get? c=some o)→(∀c∈wr',∃o,h.get? c=some o∧o.cls≠.type "tuple")→TT h'):
  ∀(m i:Nat)(s:Shared),n-i=m→i≤n→St i s→TT s.heap→SG prog w U s.heap S (ks.take i)→(∀s',Moved (S::wr) G s s'→SG prog w U s'.heap S ks→R (.ok (.ret .none)) s') →
   codeAny (model prog w) A (.builtin "set.update.loop" ⟨[.ref S,.ref it],[]⟩) R s:=by
 have hSw:S∉wr:=fun q=>hSf (W.sub _ q)
 have sb:∀c∈wr,c∈S::wr:=fun c hc=>List.mem_cons_of_mem _ hc
 intro m
 induction m with
 |zero=>
  intro i s e1 e2 st _ hS hR
  obtain rfl:i=n:=by omega
  refine codeAny_builtin PyProof.Rows.F.entry_set_update_loop ?_
  rw[Around.under_plainId PyProof.Rows.F.plain_set_update_loop _]
  refine wpAny_bind (m:=pyNext (.ref it)) (W.done s _ _ st fun s' mv=>?_)
  rw[List.take_of_length_le (by omega)]at hS
  exact wpAny_pure (hR s' (mv.mono sb) (hS.keep hSw mv.heap (hw _ s st)))
 |succ m ih=>
  intro i s e1 e2 st tt hS hR
  have hi:i<n:=by omega
  refine codeAny_builtin PyProof.Rows.F.entry_set_update_loop ?_
  rw[Around.under_plainId PyProof.Rows.F.plain_set_update_loop _]
  refine wpAny_bind (m:=pyNext (.ref it)) (W.item i s _ _ hi st fun v s' hP st' mv=>?_)
  have tt':=hTk _ _ wr tt mv.heap (hw _ s st)
  obtain⟨hUv,b,k,rfl,hki,hb⟩:=hTT _ tt' i v hP
  have hS':=hS.keep hSw mv.heap (hw _ s st)
  refine wpAny_bind (m:=holding [Value.ref b] (setAdd S (.ref b))) (wpAny_holding ?_)
  unfold setAdd
  refine wpAny_holding (wpAny_bind (wpAny_pyHash_tuple hu hb ?_))
  refine CO (s:={ s' with toks:=s'.toks+(k.length+1) }) hu hS' hUv hb (by rw[List.length_take];omega) fun bb h' sbt hS2=>?_
  have ek:ks.take i++[k]=ks.take (i+1):=by
   rw[List.take_add_one,hki];rfl
  rw[ek]at hS2
  obtain⟨es,ep,t,ho,_⟩:=hS'
  have keepS:∀c o,c∉[S]→s'.heap.get? c=some o→h'.get? c=some o:=fun c o hc e=>by
   rw[sbt.2 c (fun q=>hc (by simp[q]))];exact e
  refine wpAny_pure ⟨plainId_quiet PyProof.Rows.F.plain_set_update_loop _,ih (i+1) _ (by omega) hi (W.frame _ s' _ _ st' (Nat.le_add_right _ _) fun c hc o e=>keepS c o (fun q=>hSf (by simp at q;rw[←q];exact hc)) e) ?_ hS2 fun s'' mv'' hS''=>?_⟩
  ·exact hTk _ _ [S] tt' keepS fun c hc=>by
    simp at hc;subst hc
    exact⟨_,ho,by simp[cM]⟩
  ·refine hR s'' (Moved.trans W.gtrans ((mv.mono sb).then_heap (Nat.le_add_right _ _) fun c o hc e=>keepS c o (fun q=>hc (by simp at q;simp[q])) e) mv'') hS''
theorem xD (a:Value) {Q₁:Value→Shared→Prop} (h:Q₁ (.ref s.heap.objs.size) { s with heap:=s.heap.push (cM #[] 0 (.fresh 0 0 (!w.params.followText "set-order"))) }):
  codeAny (model prog w) A (.call (.builtin "set.__new__") ⟨[.type "set",a],[]⟩) (wants Q₁ E) s:=by
 refine codeAny_of_tree (wpAny_bind (m:=checkBuiltinCall "set.__new__" ⟨[.type "set",a],[]⟩) (wpAny_of_eq (F.newCall_set_1 a) (wpAny_pure ⟨plainId_quiet F.plain_set_new _,codeAny_builtin F.entry_set_new ?_⟩)))
 rw[Around.under_plainId F.plain_set_new _]
 unfold Builtin.«set.__new__» Builtin.Frozenset.newClass
 have sset:=sub_set_self
 obtain⟨hp,g,d,tk,os⟩:=s
 dsimp only
 wp_walk
 refine wpAny_askSetting (wpAny_pure ?_)
 dsimp only
 simp only[newObj]
 refine wpAny_bind (wpAny_alloc (wpAny_pure (wpAny_pure ?_)))
 exact h
theorem xF{l:Addr}{items:Array Value}{ks:List (List Int)}{Q:Value→Shared→Prop}(hh:A.handled=none)(hu:A.units+10<cLine)(hl:s.heap.IsList l items)(hz:ks.length=items.size)(h63:items.size≤63)
  (hT:∀(i:Nat)(v:Value),items[i]? = some v→∃b k,v=.ref b∧ks[i]? = some k∧TK prog w s.heap k b)
  (hU:∀v∈items.toList,U v)
  (h:∀(h':Heap)(tk:Nat),SG prog w U h' s.heap.objs.size ks→(∀b o,s.heap.get? b=some o→h'.get? b=some o)→Q (.ref s.heap.objs.size) { s with heap:=h',toks:=tk }):
  wpAny (model prog w) A (call (.type "set") [.ref l]) Q E s:=by
 obtain⟨c0,tl0,mro0⟩:=F.called_set.mro
 have made0:=F.called_set.made
 have sub0:=F.called_set.sub
 have q1:=F.called_set.notType
 have q2:=F.called_set.canCreate
 have q3:=F.typeCall_set_1 (.ref l)
 refine wpAny_call (codeAny_of_tree ?_)
 change wpAny _ _ (callAny (.type "set") _) _ _ _
 refine wpAny_pure ⟨Code.quiet_builtin _ (by decide +kernel),codeAny_builtin F.entry_type_call ?_⟩
 rw[Around.under_plain (weight_type_call_type "set" [.ref l] []) rfl]
 repeat (any_goals (first | assumption | wp_step))
 have hS0:SG prog w U (s.heap.push (cM #[] 0 (.fresh 0 0 (!w.params.followText "set-order")))) s.heap.objs.size []:=SG.new s.heap
 generalize hob:(!w.params.followText "set-order")=led at hS0
 change SG prog w U (s.heap.push { cls:=.type "set",dict:=none,data:=.set #[] 0 (.fresh 0 0 led) }) _ _ at hS0
 refine codeAny_mono (xD (.ref l) (E:=E) (Q₁:=fun obj s₁=>obj=.ref s.heap.objs.size∧s₁ = { s with heap:=s.heap.push { cls:=.type "set",dict:=none,data:=.set #[] 0 (.fresh 0 0 led) } }) (by rw[hob];exact⟨rfl,rfl⟩)) fun r s₁ hr=>?_
 cases r with
 |error e=>exact hr
 |ok fl=>
  cases fl with
  |ret obj=>
   obtain⟨rfl,rfl⟩:=hr
   have gS:(s.heap.push { cls:=.type "set",dict:=none,data:=.set #[] 0 (.fresh 0 0 led) }).get? s.heap.objs.size=some { cls:=.type "set",dict:=none,data:=.set #[] 0 (.fresh 0 0 led) }:=Heap.get?_push_size _ rfl
   have tS:Shared.TypeIs { s with heap:=s.heap.push { cls:=.type "set",dict:=none,data:=.set #[] 0 (.fresh 0 0 led) } } (.ref s.heap.objs.size) "set":=⟨_,gS,rfl⟩
   have li:=F.called_set.init.lookup
   have bi:=F.called_set.init.bind (.ref s.heap.objs.size)
   repeat (any_goals (first | assumption | wp_step))
   refine codeAny_mono (codeAny_call_builtin (R:=wants (fun r s₂=>r=.none∧∃h' tk,s₂ = { s with heap:=h',toks:=tk }∧SG prog w U h' s.heap.objs.size ks∧(∀b o,s.heap.get? b=some o→h'.get? b=some o)) E) F.called_set.init.plain F.entry_set_init (check_set_init_1 tS ?_)) fun r₂ s₂ hr₂=>?_
   ·have hl1:(s.heap.push { cls:=.type "set",dict:=none,data:=.set #[] 0 (.fresh 0 0 led) }).IsList l items:=hl.push _
    obtain⟨ol,gl,cl,nl,dl⟩:=hl
    obtain⟨ocl,odi,oda,osl⟩:=ol
    simp only at cl dl
    subst cl;subst dl
    have gl':(s.heap.push { cls:=.type "set",dict:=none,data:=.set #[] 0 (.fresh 0 0 led) }).get? l=some { cls:=.type "list",dict:=odi,data:=.seq items nl,slots:=osl }:=Heap.get?_push_of_some _ gl
    have n1:=F.sub_list_set
    have n2:=F.sub_list_frozenset
    have n3:(Value.type "list" == Value.type "dict")=false:=by decide
    unfold Builtin.«set.__init__» noKeywords Builtin.Frozenset.updateFrom
    generalize hPI:pyIter=PI
    wp_walk
    subst hPI
    refine wpAny_pyIter_list hl1 ?_
    refine wpAny_bind (wpAny_runValue ?_)
    have lS:l<s.heap.objs.size:=Heap.lt_size gl
    have szp:(s.heap.push { cls:=.type "set",dict:=none,data:=.set #[] 0 (.fresh 0 0 led) }).objs.size=s.heap.objs.size+1:=Heap.size_push _ _
    have neI:l≠(s.heap.push { cls:=.type "set",dict:=none,data:=.set #[] 0 (.fresh 0 0 led) }).objs.size  :=by rw[szp];exact Nat.ne_of_lt (Nat.lt_succ_of_lt lS)
    refine uK (TT:=fun h=>∀(i:Nat)(v:Value),items[i]? = some v→∃b k,v=.ref b∧ks[i]? = some k∧TK prog w h k b) ((Walks.list (by simp[hh]) _ l neI items).toS) (S:=s.heap.objs.size) (by simp only[Around.in1_units];omega)
     (by rw[szp];simp only[List.mem_cons,List.not_mem_nil,or_false,not_or];exact⟨Nat.ne_of_lt (Nat.lt_succ_self _),Nat.ne_of_gt lS⟩) (fun i s' st c hc=>?_) hz h63 (fun h tt i v hv=>⟨hU v (by rw[←Array.getElem?_toList]at hv;exact List.mem_of_getElem? hv),tt i v hv⟩) (fun h h' wr tt hk hw i v hv=>let⟨b,k,e1,e2,e3⟩:=tt i v hv;⟨b,k,e1,e2,e3.keep hk hw⟩) (items.size-0) 0 _ (by omega) (Nat.zero_le _)
     ⟨⟨_,Heap.get?_push_size _ rfl,rfl,rfl⟩,hl1.push _⟩ (fun i v hv=>?_) ?_ fun s' mv hS'=>?_
    ·obtain rfl:=List.mem_singleton.mp hc
     obtain⟨⟨o,go,co,_⟩,_⟩:=st
     exact⟨o,go,by rw[co];decide⟩
    ·obtain⟨b,k,e1,e2,e3⟩:=hT i v hv
     exact⟨b,k,e1,e2,e3.keep (wr:=[]) (fun c o _ e=>Heap.get?_push_of_some _ (Heap.get?_push_of_some _ e)) (fun c hc=>by simp at hc)⟩
    ·rw[List.take_zero]
     exact hS0.keep (wr:=[]) (by simp) (fun c o _ e=>Heap.get?_push_of_some _ e) (fun c hc=>by simp at hc)
    ·obtain⟨h',g',d',tk',os'⟩:=s'
     have eg:g'=s.gens:=mv.gens
     have ed:d'=s.drawn:=mv.drawn
     have eo:os'=s.os:=mv.os
     subst eg;subst ed;subst eo
     change wpAny _ _ _ _ _ _
     refine wpAny_pure (wpAny_pure (a:=_) ⟨rfl,h',tk',rfl,hS',fun b o e=>?_⟩)
     have bl:b<s.heap.objs.size:=Heap.lt_size e
     exact mv.heap b o (by rw[szp];simp only[List.mem_cons,List.not_mem_nil,or_false,not_or];exact⟨Nat.ne_of_lt bl,Nat.ne_of_lt (Nat.lt_succ_of_lt bl)⟩) (Heap.get?_push_of_some _ (Heap.get?_push_of_some _ e))
   ·cases r₂ with
    |error e=>exact hr₂
    |ok fl₂=>
     cases fl₂ with
     |ret r=>
      obtain⟨rfl,h',tk,rfl,hS',hk'⟩:=hr₂
      repeat (any_goals (first | assumption | wp_step))
      exact h _ _ hS' hk'
     |_=>exact hr₂.elim
  |_=>exact hr.elim
end
end GS
namespace GS
open PySem PySem.SetTable
namespace FI
theorem wd:Manifest.owners.lookup (String.ofList ['r','o','t','a','r','e','t','i','_','t','e','s'].reverse)=some Manifest.sig_set_iterator:=by kernel_rfl
theorem sl_next:Slot "set_iterator" "__next__" "set_iterator.__next__":=
 .of (owner:="set_iterator") (n:="__next__") (by rw[typeLookup_type,builtinLookup_eq_fast];kernel_rfl) (by decide +kernel) (by decide +kernel) (by decide +kernel) (by first|exact .inl (by decide +kernel)|exact .inr (by decide +kernel)) (by rw[isSubtype_type];kernel_rfl)
theorem en_next:entryFor table "set_iterator.__next__" = some Builtin.«set_iterator.__next__»:=entryFor_of_tree (by kernel_rfl)
theorem ar_next (a:Value):argsOk "set_iterator.__next__" ⟨[a],[]⟩:=by
 unfold argsOk;rw[signature?_of (id:="set_iterator.__next__") (n:="__next__".toList.reverse) (o:="set_iterator".toList.reverse) (by kernel_rfl) wd];kernel_rfl
theorem sl_iter:Slot "set_iterator" "__iter__" "set_iterator.__iter__":=
 .of (owner:="set_iterator") (n:="__iter__") (by rw[typeLookup_type,builtinLookup_eq_fast];kernel_rfl) (by decide +kernel) (by decide +kernel) (by decide +kernel) (by first|exact .inl (by decide +kernel)|exact .inr (by decide +kernel)) (by rw[isSubtype_type];kernel_rfl)
theorem en_iter:entryFor table "set_iterator.__iter__" = some Builtin.«dict_keyiterator.__iter__»:=entryFor_alias (id':="dict_keyiterator.__iter__") (by kernel_rfl) rfl (by decide +kernel) (by kernel_rfl)
theorem ar_iter (a:Value):argsOk "set_iterator.__iter__" ⟨[a],[]⟩:=by
 unfold argsOk;rw[signature?_of (id:="set_iterator.__iter__") (n:="__iter__".toList.reverse) (o:="set_iterator".toList.reverse) (by kernel_rfl) wd];kernel_rfl
theorem en_siter:entryFor table "set.__iter__" = some Builtin.«frozenset.__iter__»:=entryFor_alias (id':="frozenset.__iter__") (by kernel_rfl) rfl (by decide +kernel) (by kernel_rfl)
end FI
theorem m8{α:Type}(next:Nat→Nat):∀(fuel k:Nat)(left:List α)(out:Array α),fuel=left.length→(pickOrder.go next fuel k left out).toList.Perm (out.toList++left)
 |0,k,left,out,h=>by
  have:left=[]:=List.length_eq_zero_iff.mp h.symm
  subst this
  unfold pickOrder.go;simp
 |fuel+1,k,left,out,h=>by
  unfold pickOrder.go
  have hlt:next k % left.length<left.length:=Nat.mod_lt _ (by omega)
  rw[List.getElem?_eq_getElem hlt]
  dsimp only
  refine(m8 next fuel (k+1) _ _ (by rw[List.length_eraseIdx,if_pos hlt];omega)).trans ?_
  rw[Array.toList_push,List.append_assoc]
  refine List.Perm.append_left _ ?_
  show(left[next k % left.length]::left.eraseIdx (next k % left.length)).Perm left
  rw[List.eraseIdx_eq_take_drop_succ]
  refine List.perm_middle.symm.trans ?_
  rw[←List.drop_eq_getElem_cons hlt,List.take_append_drop]
theorem gL{α:Type}(next:Nat→Nat)(xs:Array α):(pickOrder next xs).toList.Perm xs.toList:=by
 have:=m8 next xs.size 0 xs.toList #[] (by simp)
 simpa[pickOrder] using this
section
variable {prog:Program}{w:World}{A:Around}{E:Value→Shared→Prop}{s:Shared}
def cY (w:World) (a:Addr) (es:Array (Int×Value)) (ep:Nat):Array (Int×Value):=if w.params.followText "set-order" = true then pickOrder (w.params.setOrder a ep) es else es
theorem kY(w:World)(a:Addr)(es:Array (Int×Value))(ep:Nat):(cY w a es ep).toList.Perm es.toList:=by
 unfold cY;split
 ·exact gL _ _
 ·exact List.Perm.refl _
theorem iW(w:World)(a:Addr)(es:Array (Int×Value))(ep:Nat):(cY w a es ep).size=es.size:=by
 have:=(kY w a es ep).length_eq;simpa using this
def slotAt (w:World) (t:SetTable) (i:Nat):Nat:=if w.params.followText "set-order" = true then 0 else if i=0 then 0 else t.place.getD (i-1) 0+1
theorem next_item {a:Addr} {es:Array (Int×Value)} {ep:Nat} {t:SetTable} {i:Nat} {e:Int×Value} {Q:Option (Value×Nat)→Shared→Prop} (ho:s.heap.get? a=some (cM es ep t)) (T:TInv t (es.toList.map (·.1))) (hl:t.led = !w.params.followText "set-order") (hp:t.plain=true)
  (hi:(cY w a es ep)[i]? = some e) (h:Q (some (e.2,slotAt w t (i+1))) s):wpAny (model prog w) A (setNext a (slotAt w t i) i ep) Q E s:=by
 have esz:t.place.size=es.size:=by have:=T.size;simpa using this
 have hil:i<es.size:=by rw[←iW w a es ep];exact ja hi
 unfold setNext
 refine wpAny_bind (wpAny_setState_of ho rfl T.fits ?_)
 dsimp only
 unfold setsByText
 refine wpAny_bind (wpAny_bind (wpAny_askSetting (wpAny_pure ?_)))
 show wpAny _ _ (if w.params.followText "set-order" = true then _ else _) _ _ _
 by_cases hb:w.params.followText "set-order" = true
 ·rw[if_pos hb]
  simp only[bne_self_eq_false,Bool.false_eq_true,if_false]
  unfold setWalk setsByText
  refine wpAny_bind (wpAny_bind (wpAny_setState_of ho rfl T.fits ?_))
  dsimp only
  refine wpAny_bind (wpAny_bind (wpAny_askSetting (wpAny_pure ?_)))
  show wpAny _ _ (if w.params.followText "set-order" = true then _ else _) _ _ _
  rw[if_pos hb]
  refine wpAny_bind (wpAny_askSetting (wpAny_pure ?_))
  have e1:cY w a es ep=pickOrder (w.params.setOrder a ep) es:=by unfold cY;rw[if_pos hb]
  show wpAny _ _ (pure (((pickOrder (w.params.setOrder a ep) es)[i]?).map fun e=>(e.2,slotAt w t i))) _ _ _
  rw[←e1,hi]
  have e2:slotAt w t i=slotAt w t (i+1):=by unfold slotAt;rw[if_pos hb,if_pos hb]
  rw[e2]
  exact wpAny_pure h
 ·rw[if_neg hb]
  have hb':w.params.followText "set-order" = false:=by simpa using hb
  have e1:cY w a es ep=es:=by unfold cY;rw[if_neg hb]
  rw[e1]at hi
  show wpAny _ _ (if (!t.plain&&decide (es.size>1))=true then _ else _) _ _ _
  rw[hp]
  simp only[Bool.not_true,Bool.false_and,Bool.false_eq_true,if_false]
  refine wpAny_bind ?_
  show wpAny _ _ (if (!t.led&&!es.isEmpty)=true then _ else _) _ _ _
  rw[hl,hb']
  simp only[Bool.not_false,Bool.not_true,Bool.false_and,Bool.false_eq_true,if_false]
  refine wpAny_pure ?_
  obtain⟨j,hj⟩:∃j,t.place[i]? = some j:=⟨_,Array.getElem?_eq_getElem (by rw[esz];exact hil)⟩
  have hbw:below t.place (slotAt w t i)=i:=by
   by_cases hz:i=0
   ·have e3:slotAt w t i=0:=by unfold slotAt;rw[if_neg hb,if_pos hz]
    rw[e3]
    obtain⟨b1,b2,b3⟩:=cX t.place 0 T.rise
    subst hz
    rcases Nat.eq_zero_or_pos (below t.place 0) with q|q
    ·exact q
    ·have:=b1 0 j q hj;omega
   ·obtain⟨j',hj'⟩:∃j',t.place[i-1]? = some j':=⟨_,Array.getElem?_eq_getElem (by rw[esz];omega)⟩
    have e3:slotAt w t i=j'+1:=by unfold slotAt;rw[if_neg hb,if_neg hz,Array.getD_eq_getD_getElem?,hj'];rfl
    rw[e3]
    obtain⟨b1,b2,b3⟩:=cX t.place (j'+1) T.rise
    have hlt:=T.rise (i-1) i j' j (by omega) hj' hj
    rcases Nat.lt_trichotomy (below t.place (j'+1)) i with q|q|q
    ·have:=b2 (i-1) j' (by omega) hj';omega
    ·exact q
    ·have:=b1 i j q hj;omega
  simp only[hbw,hi,hj]
  have e2:slotAt w t (i+1)=j+1:=by
   unfold slotAt
   rw[if_neg hb,if_neg (by omega),Nat.add_sub_cancel,Array.getD_eq_getD_getElem?,hj];rfl
  rw[e2]at h
  exact wpAny_pure h
theorem next_end {a:Addr} {es:Array (Int×Value)} {ep:Nat} {t:SetTable} {Q:Option (Value×Nat)→Shared→Prop} (ho:s.heap.get? a=some (cM es ep t)) (T:TInv t (es.toList.map (·.1))) (hl:t.led = !w.params.followText "set-order") (hp:t.plain=true)
  (h:Q none s):wpAny (model prog w) A (setNext a (slotAt w t es.size) es.size ep) Q E s:=by
 have esz:t.place.size=es.size:=by have:=T.size;simpa using this
 unfold setNext
 refine wpAny_bind (wpAny_setState_of ho rfl T.fits ?_)
 dsimp only
 unfold setsByText
 refine wpAny_bind (wpAny_bind (wpAny_askSetting (wpAny_pure ?_)))
 show wpAny _ _ (if w.params.followText "set-order" = true then _ else _) _ _ _
 by_cases hb:w.params.followText "set-order" = true
 ·rw[if_pos hb]
  simp only[bne_self_eq_false,Bool.false_eq_true,if_false]
  unfold setWalk setsByText
  refine wpAny_bind (wpAny_bind (wpAny_setState_of ho rfl T.fits ?_))
  dsimp only
  refine wpAny_bind (wpAny_bind (wpAny_askSetting (wpAny_pure ?_)))
  show wpAny _ _ (if w.params.followText "set-order" = true then _ else _) _ _ _
  rw[if_pos hb]
  refine wpAny_bind (wpAny_askSetting (wpAny_pure ?_))
  show wpAny _ _ (pure (((pickOrder (w.params.setOrder a ep) es)[es.size]?).map fun e=>(e.2,slotAt w t es.size))) _ _ _
  have hz:(pickOrder (w.params.setOrder a ep) es).size=es.size:=by have:=(gL (w.params.setOrder a ep) es).length_eq;simpa using this
  rw[Array.getElem?_eq_none (by rw[hz];exact Nat.le_refl _)]
  exact wpAny_pure h
 ·rw[if_neg hb]
  have hb':w.params.followText "set-order" = false:=by simpa using hb
  show wpAny _ _ (if (!t.plain&&decide (es.size>1))=true then _ else _) _ _ _
  rw[hp]
  simp only[Bool.not_true,Bool.false_and,Bool.false_eq_true,if_false]
  refine wpAny_bind ?_
  show wpAny _ _ (if (!t.led&&!es.isEmpty)=true then _ else _) _ _ _
  rw[hl,hb']
  simp only[Bool.not_false,Bool.not_true,Bool.false_and,Bool.false_eq_true,if_false]
  refine wpAny_pure ?_
  have hbw:below t.place (slotAt w t es.size)=es.size:=by
   obtain⟨b1,b2,b3⟩:=cX t.place (slotAt w t es.size) T.rise
   rcases Nat.lt_or_ge (below t.place (slotAt w t es.size)) es.size with q|q
   ·exfalso
    have hpos:es.size≠0:=by omega
    obtain⟨j',hj'⟩:∃j',t.place[es.size-1]? = some j':=⟨_,Array.getElem?_eq_getElem (by rw[esz];omega)⟩
    have hh:=b2 (es.size-1) j' (by omega) hj'
    unfold slotAt at hh
    rw[if_neg hb,if_neg hpos,Array.getD_eq_getD_getElem?,hj']at hh
    simp at hh
    omega
   ·omega
  simp only[hbw,Array.getElem?_eq_none (Nat.le_refl es.size)]
  exact wpAny_pure h
def fV(w:World)(h:Heap)(it a:Addr)(t:SetTable)(i n ep:Nat):Prop:=
 ∃o,h.get? it=some o∧o.cls=.type "set_iterator"∧o.data=.fields #[.int (slotAt w t i) 0,.int i 0,.ref a,.int n 0,.int ep 0]
theorem fV.typeIs {s:Shared} {it a:Addr} {t:SetTable} {i n ep:Nat} (x:fV w s.heap it a t i n ep):s.TypeIs (.ref it) "set_iterator":=let⟨o,ho,hc,_⟩:=x;⟨o,ho,hc⟩
theorem wO{a:Addr}{es:Array (Int×Value)}{ep:Nat}{t:SetTable}{Q:Value→Shared→Prop}(ho:s.heap.get? a=some (cM es ep t))(T:TInv t (es.toList.map (·.1)))(hp:t.plain=true)
  (hQ:Q (.ref s.heap.objs.size) { s with heap:=s.heap.push { cls:=.type "set_iterator",data:=.fields #[.int 0 0,.int 0 0,.ref a,.int es.size 0,.int ep 0] } }):wpAny (model prog w) A (pyIter (.ref a)) Q E s:=by
 have hT:s.TypeIs (.ref a) "set":=⟨_,ho,rfl⟩
 refine wpAny_pyIter_slot hT F.slot_set_iter (wpAny_call_entry F.slot_set_iter hT FI.en_siter ?_ (F.args_set_iter_1 _))
 unfold Builtin.«frozenset.__iter__»
 refine wpAny_bind (m:=Builtin.Frozenset.slot0 "__iter__" ⟨[.ref a],[]⟩) (wpAny_pure ?_)
 unfold Builtin.Frozenset.sizeOf
 refine wpAny_bind (wpAny_bind (wpAny_setEntries_of ho rfl T.fits (wpAny_pure ?_)))
 unfold setDrawn setsByText
 refine wpAny_bind (wpAny_bind (wpAny_setState_of ho rfl T.fits ?_))
 dsimp only
 refine wpAny_bind (wpAny_bind (wpAny_askSetting (wpAny_pure ?_)))
 have hdr:(!(model prog w).w.params.followText "set-order" && (!t.plain&&decide (es.size>1)))=false:=by rw[hp];simp
 show wpAny _ _ (pure (!(model prog w).w.params.followText "set-order" && (!t.plain&&decide (es.size>1)))) _ _ _
 rw[hdr]
 refine wpAny_pure ?_
 simp only[Bool.false_eq_true,if_false]
 refine wpAny_bind (wpAny_pure ?_)
 refine wpAny_bind (wpAny_setEpoch_of ho rfl T.fits ?_)
 exact wpAny_bind (wpAny_newObj_type (wpAny_pure ⟨_,rfl,"set_iterator",_,⟨_,Heap.get?_push_size _ rfl,rfl⟩,FI.sl_next.lookup,hQ⟩))
theorem zH {it a:Addr} {es:Array (Int×Value)} {ep i:Nat} {t:SetTable} {e:Int×Value} {Q:Option Value→Shared→Prop} (ho:s.heap.get? a=some (cM es ep t)) (T:TInv t (es.toList.map (·.1))) (hl:t.led = !w.params.followText "set-order") (hp:t.plain=true)
  (hit:fV w s.heap it a t i es.size ep) (hi:(cY w a es ep)[i]? = some e) (hne:a≠it)
  (hQ:∀h',fV w h' it a t (i+1) es.size ep→Heap.SameBut it s.heap h'→Q (some e.2) { s with heap:=h' }):wpAny (model prog w) A (pyNext (.ref it)) Q E s:=by
 obtain⟨o,go,hc,hd⟩:=id hit
 unfold pyNext
 refine wpAny_bind (wpAny_attempt (wpAny_callSpecial?_slot (name:=Str.ofString "__next__") hit.typeIs FI.sl_next (wpAny_call_entry FI.sl_next hit.typeIs FI.en_next ?_ (FI.ar_next _))))
 unfold Builtin.«set_iterator.__next__»
 refine wpAny_bind (m:=slotArgs "__next__" 0 ⟨[.ref it],[]⟩) (wpAny_pure ?_)
 dsimp only
 refine wpAny_bind (wpAny_fieldsOf go hd ?_)
 dsimp only
 refine wpAny_bind (wpAny_setEntries_of ho rfl T.fits ?_)
 simp only[bne_self_eq_false,Bool.false_eq_true,if_false,Int.toNat_natCast]
 refine wpAny_bind (next_item ho T hl hp hi ?_)
 dsimp only
 have g1:(s.heap.update it (Obj.mapFields (·.setIfInBounds 0 (rawInt (slotAt w t (i+1)))))).get? it=some (Obj.mapFields (·.setIfInBounds 0 (rawInt (slotAt w t (i+1)))) o):=Heap.get?_update_self _ go (Obj.isFreed_of_fields (Obj.data_mapFields hd _))
 refine wpAny_bind (wpAny_setField go hd (by simp) ?_)
 refine wpAny_bind (wpAny_setField g1 (Obj.data_mapFields hd _) (by simp) ?_)
 refine wpAny_pure ⟨_,rfl,wpAny_pure (hQ _ ⟨_,Heap.get?_update_self _ g1 (Obj.isFreed_of_fields (Obj.data_mapFields (Obj.data_mapFields hd _) _)),(Obj.cls_mapFields ..).trans ((Obj.cls_mapFields ..).trans hc),?_⟩ ((Heap.SameBut.update ..).trans (Heap.SameBut.update ..)))⟩
 rw[Obj.data_mapFields (Obj.data_mapFields hd _)]
 simp[rawInt]
theorem Cj {it a:Addr} {es:Array (Int×Value)} {ep:Nat} {t:SetTable} {Q:Option Value→Shared→Prop} (hh:A.handled=none) (ho:s.heap.get? a=some (cM es ep t)) (T:TInv t (es.toList.map (·.1))) (hl:t.led = !w.params.followText "set-order") (hp:t.plain=true)
  (hit:fV w s.heap it a t es.size es.size ep)
  (hQ:∀h',Heap.ExtBut it s.heap h'→Q none { s with heap:=h' }):wpAny (model prog w) A (pyNext (.ref it)) Q E s:=by
 obtain⟨o,go,hc,hd⟩:=id hit
 unfold pyNext
 refine wpAny_bind (wpAny_attempt (wpAny_callSpecial?_slot (name:=Str.ofString "__next__") hit.typeIs FI.sl_next (wpAny_call_entry FI.sl_next hit.typeIs FI.en_next ?_ (FI.ar_next _))))
 unfold Builtin.«set_iterator.__next__»
 refine wpAny_bind (m:=slotArgs "__next__" 0 ⟨[.ref it],[]⟩) (wpAny_pure ?_)
 dsimp only
 refine wpAny_bind (wpAny_fieldsOf go hd ?_)
 dsimp only
 refine wpAny_bind (wpAny_setEntries_of ho rfl T.fits ?_)
 simp only[bne_self_eq_false,Bool.false_eq_true,if_false,Int.toNat_natCast]
 refine wpAny_bind (next_end ho T hl hp ?_)
 dsimp only
 refine wpAny_bind (wpAny_setField go hd (by simp) ?_)
 refine wpAny_bind (m:=newExc (.type "StopIteration") []) ?_
 simp only[newExc,newTuple]
 refine wpAny_bind (wpAny_newObj_type ?_ (by size_fits))
 refine wpAny_bind (m:=firstArgMember _ _) (wpAny_of_eq (a:=Value.none) (by first|rfl | (simp only[firstArgMember];rfl)) (wpAny_newObj_type ?_ (by size_fits)))
 simp only[raiseNew]
 refine wpAny_bind (wpAny_handled ?_)
 rw[show A.in1.handled=none from hh]
 refine wpAny_bind (wpAny_pure (wpAny_throw ?_))
 refine wpAny_bind (wpAny_isInstance (b:=true) (T:="StopIteration") ⟨_,Heap.get?_push_size _ rfl,rfl⟩ isSubtype_stop ?_)
 exact wpAny_pure (hQ _ (((Heap.SameBut.update ..).extBut.push _).push _))
theorem tJ (hh:A.handled=none) (it a:Addr) (hne:a≠it) (es:Array (Int×Value)) (ep:Nat) (t:SetTable) (T:TInv t (es.toList.map (·.1))) (hl:t.led = !w.params.followText "set-order") (hp:t.plain=true):
  Walks prog w A it [it,a] [it] es.size (fun i v=>∃e,(cY w a es ep)[i]? = some e∧v=e.2) (fun i h=>fV w h it a t i es.size ep∧h.get? a=some (cM es ep t)) where
 sub:=fun b hb=>by simp at hb;simp[hb]
 frame:=fun _ _ _ st hk=>⟨let⟨o,ho,r⟩:=st.1;⟨o,hk it (by simp) o ho,r⟩,hk a (by simp) _ st.2⟩
 item:=fun i s Q E hi st hQ=>by
  obtain⟨e,he⟩:∃e,(cY w a es ep)[i]? = some e:=⟨_,Array.getElem?_eq_getElem (by rw[iW];exact hi)⟩
  refine zH st.2 T hl hp st.1 he hne fun h' hit' hs'=>?_
  exact hQ _ h' s.toks ⟨e,he,rfl⟩ ⟨hit',(hs'.2 a hne).trans st.2⟩ fun b o hb q=>(hs'.2 b (fun z=>hb (by simp[z]))).trans q
 done:=fun s Q E st hQ=>Cj hh st.2 T hl hp st.1 fun h' he'=>hQ h' s.toks fun b o hb q=>he' b o (fun z=>hb (by simp[z])) q
 self:=fun _ _ _ _ st hQ=>by
  refine wpAny_pyIter_slot st.1.typeIs FI.sl_iter (wpAny_call_entry FI.sl_iter st.1.typeIs FI.en_iter ?_ (FI.ar_iter _))
  exact wpAny_pure ⟨_,rfl,"set_iterator",_,st.1.typeIs,FI.sl_next.lookup,hQ⟩
end
end GS
namespace HM
abbrev Pt:=Int×Int
def cr(P Q R:Pt):Int:=(Q.1-P.1)*(R.2-P.2)-(Q.2-P.2)*(R.1-P.1)
def lx(P Q:Pt):Prop:=P.1<Q.1∨(P.1=Q.1∧P.2<Q.2)
instance (P Q:Pt):Decidable (lx P Q):=by unfold lx;infer_instance
theorem rD(P Q:Pt):lx P Q∨P=Q∨lx Q P:=by
 unfold lx
 rcases Int.lt_trichotomy P.1 Q.1 with h|h|h
 ·exact .inl (.inl h)
 ·rcases Int.lt_trichotomy P.2 Q.2 with g|g|g
  ·exact .inl (.inr ⟨h,g⟩)
  ·exact .inr (.inl (Prod.ext h g))
  ·exact .inr (.inr (.inr ⟨h.symm,g⟩))
 ·exact .inr (.inr (.inl h))
theorem qc{P Q R:Pt}(h:lx P Q)(g:lx Q R):lx P R:=by unfold lx at *;omega
theorem fY{P:Pt}(h:lx P P):False:=by unfold lx at h;omega
theorem fZ{P Q:Pt}(h:lx P Q)(g:lx Q P):False:=fY (qc h g)
theorem nn{a b:Int}(hb:0<b)(h:0≤a*b):0≤a:=by
 rcases Int.lt_or_le a 0 with q|q
 ·have:=Int.mul_neg_of_neg_of_pos q hb;omega
 ·exact q
theorem pp{a b:Int}(hb:0<b)(h:0<a*b):0<a:=by
 rcases Int.lt_or_le 0 a with q|q
 ·exact q
 ·have:=Int.mul_nonpos_of_nonpos_of_nonneg q (Int.le_of_lt hb);omega
def Rt(x y:Int):Prop:=0<x∨(x=0∧0<y)
section
variable {a b c d e f:Int}
theorem id1:(a*f-b*e)*c=(a*d-b*c)*e+(c*f-d*e)*a:=by grind
theorem ES(u:Rt a b)(v:Rt c d)(w:Rt e f)(h1:0≤a*d-b*c)(h2:0≤c*f-d*e):0≤a*f-b*e:=by
 have he:0≤e:=by unfold Rt at w;omega
 have ha:0≤a:=by unfold Rt at u;omega
 rcases v with hc|⟨rfl,hd⟩
 ·refine nn hc ?_
  rw[id1 (d:=d)]
  exact Int.add_nonneg (Int.mul_nonneg h1 he) (Int.mul_nonneg h2 ha)
 ·have hz:e=0:=by
   rcases Int.lt_or_le 0 e with q|q
   ·have:=Int.mul_pos hd q;omega
   ·omega
  subst hz
  have hf:0<f:=by unfold Rt at w;omega
  have:=Int.mul_nonneg ha (Int.le_of_lt hf)
  omega
theorem Ak(u:Rt a b)(v:Rt c d)(w:Rt e f)(h1:0≤a*d-b*c)(h2:0<c*f-d*e):0<a*f-b*e:=by
 have he:0≤e:=by unfold Rt at w;omega
 have ha:0≤a:=by unfold Rt at u;omega
 rcases v with hc|⟨rfl,hd⟩
 ·have ha':0<a:=by
   rcases u with q|⟨rfl,hb⟩
   ·exact q
   ·have:=Int.mul_pos hb hc;omega
  refine pp hc ?_
  rw[id1 (d:=d)]
  have:=Int.mul_pos h2 ha'
  have:=Int.mul_nonneg h1 he
  omega
 ·have:=Int.mul_nonneg (Int.le_of_lt hd) he;omega
end
theorem fM{P Q:Pt}(h:lx P Q):Rt (Q.1-P.1) (Q.2-P.2):=by unfold lx at h;unfold Rt;omega
theorem rf{α:Type}{P:List α→Prop}(nil:P [])(snoc:∀l a,P l→P (l++[a]))(l:List α):P l:=by
 have key:∀r:List α,P r.reverse:=fun r=>by
  induction r with
  |nil=>exact nil
  |cons a r ih=>rw[List.reverse_cons];exact snoc _ _ ih
 have:=key l.reverse
 rwa [List.reverse_reverse]at this
def ba(p:Pt):List Pt→List Pt
 |b::a::r=>if 0<cr a b p then b::a::r else ba p (a::r)
 |st=>st
def bE(ps:List Pt):List Pt:=ps.foldl (fun st p=>p::ba p st) []
theorem hI(ps:List Pt)(p:Pt):bE (ps++[p])=p::ba p (bE ps):=by unfold bE;rw[List.foldl_append];rfl
structure CI (st l:List Pt):Prop where
 sub:∀p∈st,p∈l
 up:st.Pairwise fun b a=>lx a b
 edge:∀pre b a r,st=pre++b::a::r→∀q∈l,0≤cr a b q
 turn:∀pre c b a r,st=pre++c::b::a::r→0<cr a b c
 top:∀t r,st=t::r→∀q∈l,q=t∨lx q t
 bot:∀pre t,st=pre++[t]→∀q∈l,q=t∨lx t q
theorem CI.nil:CI [] []:=⟨fun _ h=>h,.nil,fun _ _ _ _ _ q h=>by simp at h,fun pre _ _ _ _ h=>by simp at h,fun _ _ h=>by simp at h,fun _ _ h=>by simp at h⟩
theorem qz(P Q:Pt):cr P Q P=0:=by unfold cr;grind
theorem xn(P Q:Pt):cr P Q Q=0:=by unfold cr;grind
theorem zY(P Q R:Pt):cr P Q R = - cr Q P R:=by unfold cr;grind
theorem uv{a b c p:Pt}(h1:lx a b)(h2:lx b c)(h3:lx c p)(t1:0<cr a b c)(t2:0<cr b c p):0<cr a b p:=by
 have e1:cr a b c=(b.1-a.1)*(c.2-b.2)-(b.2-a.2)*(c.1-b.1):=by unfold cr;grind
 have e2:cr b c p=(c.1-b.1)*(p.2-c.2)-(c.2-b.2)*(p.1-c.1):=by unfold cr;grind
 rw[e1]at t1;rw[e2]at t2
 have:=Ak (fM h1) (fM h2) (fM h3) (Int.le_of_lt t1) t2
 have e3:cr a b p=((b.1-a.1)*(c.2-b.2)-(b.2-a.2)*(c.1-b.1))+((b.1-a.1)*(p.2-c.2)-(b.2-a.2)*(p.1-c.1)):=by unfold cr;grind
 omega
theorem uz{a b p q:Pt}(h1:lx a b)(h2:lx b p)(h3:lx q b)(t1:0<cr a b p)(t2:0≤cr a b q):0≤cr b p q:=by
 have e1:cr a b q=(b.1-q.1)*(b.2-a.2)-(b.2-q.2)*(b.1-a.1):=by unfold cr;grind
 have e2:cr a b p=(b.1-a.1)*(p.2-b.2)-(b.2-a.2)*(p.1-b.1):=by unfold cr;grind
 have e3:cr b p q=(b.1-q.1)*(p.2-b.2)-(b.2-q.2)*(p.1-b.1):=by unfold cr;grind
 rw[e3];rw[e1]at t2;rw[e2]at t1
 exact Int.le_of_lt (Ak (fM h3) (fM h1) (fM h2) t2 t1)
theorem uw{a b p q:Pt}(h1:lx a b)(h2:lx a p)(h3:lx a q)(t1:cr a b p≤0)(t2:0≤cr a b q):0≤cr a p q:=by
 have e1:cr a b p = -((p.1-a.1)*(b.2-a.2)-(p.2-a.2)*(b.1-a.1)):=by unfold cr;grind
 exact ES (fM h2) (fM h1) (fM h3) (by omega) t2
theorem Bu{l:List Pt}{p:Pt}(hp:∀q∈l,lx q p):∀{st:List Pt},CI st l→st≠[] →
  ∃t r pre,ba p st=t::r∧st=pre++t::r∧(∀q∈l,lx t q→0≤cr t p q)∧(∀a r',r=a::r'→0<cr a t p):=by
 have key:∀(n:Nat)(st pre0:List Pt),st.length=n→CI (pre0++st) l→st≠[]→(∀t r,st=t::r→∀q∈l,lx t q→0≤cr t p q) →
   ∃t r pre,ba p st=t::r∧st=pre++t::r∧(∀q∈l,lx t q→0≤cr t p q)∧(∀a r',r=a::r'→0<cr a t p):=by
  intro n
  induction n with
  |zero=>intro st _ hn _ hne;exact absurd (List.length_eq_zero_iff.mp hn) hne
  |succ n ih=>
   intro st pre0 hn C hne ht
   match st,hn,hne with
   |[t],_,_=>exact⟨t,[],[],rfl,rfl,ht t [] rfl,fun _ _ h=>by simp at h⟩
   |b::a::r,hn,_=>
    by_cases hc:0<cr a b p
    ·refine⟨b,a::r,[],by unfold ba;rw[if_pos hc],rfl,ht b _ rfl,fun a' r' h=>?_⟩
     cases h;exact hc
    ·have hab:lx a b:=(List.pairwise_cons.mp (List.pairwise_append.mp C.up).2.1).1 a (.head _)
     have hal:a∈l:=C.sub a (by simp)
     have hap:=hp a hal
     have e:pre0++b::a::r=(pre0++[b])++a::r:=by simp
     obtain⟨t,r1,pre,h1,h2,h3,h4⟩:=ih (a::r) (pre0++[b]) (by simpa using hn) (by rw[←e];exact C) (by simp) (fun t r' h q hq htq=>by
      cases h
      exact uw hab hap htq (Int.not_lt.mp hc) (C.edge pre0 b a r rfl q hq))
     exact⟨t,r1,b::pre,by unfold ba;rw[if_neg hc];exact h1,by rw[h2];rfl,h3,h4⟩
 intro st C hne
 refine key st.length st [] rfl C hne fun t r h q hq htq=>?_
 rcases C.top t r h q hq with e|e
 ·subst e;exact absurd htq (fun z=>fY z)
 ·exact absurd htq (fun z=>fZ z e)
theorem CI.snoc{st l:List Pt}{p:Pt}(C:CI st l)(hp:∀q∈l,lx q p)(hne:l=[]↔st=[]):CI (p::ba p st) (l++[p]):=by
 by_cases hst:st=[]
 ·have hl:=hne.mpr hst
  subst hst;subst hl
  refine⟨fun q h=>?_,List.pairwise_singleton _ _,fun pre b a r h=>?_,fun pre c b a r h=>?_,fun t r h q hq=>?_,fun pre t h q hq=>?_⟩
  ·simpa[ba] using h
  ·rcases pre with _|⟨_,pre⟩<;>simp[ba]at h
  ·rcases pre with _|⟨_,pre⟩<;>simp[ba]at h
  ·simp[ba]at h;simp at hq;exact .inl (by rw[hq,h.1])
  ·have:pre=[]∧p=t:=by
    rcases pre with _|⟨x,pre⟩
    ·simpa[ba] using h
    ·simp[ba]at h
   simp at hq;exact .inl (by rw[hq,this.2])
 ·obtain⟨t,r,pre,e1,e2,h3,h4⟩:=Bu hp C hst
  rw[e1]
  have htl:t∈l:=C.sub t (by rw[e2];simp)
  have htp:=hp t htl
  have hup:(t::r).Pairwise fun b a=>lx a b:=by
   have:=C.up;rw[e2]at this;exact(List.pairwise_append.mp this).2.1
  have hsub:∀q∈t::r,q∈l:=fun q hq=>C.sub q (by rw[e2];exact List.mem_append_right _ hq)
  have newedge:∀q∈l,0≤cr t p q:=fun q hq=>by
   rcases rD q t with g|g|g
   ·cases r with
    |nil=>
     rcases C.bot pre t (by rw[e2]) q hq with z|z
     ·subst z;exact absurd g (fun z=>fY z)
     ·exact absurd g (fun y=>fZ z y)
    |cons a r'=>
     have hat:lx a t:=(List.pairwise_cons.mp hup).1 a (.head _)
     exact uz hat htp g (h4 a r' rfl) (C.edge pre t a r' e2 q hq)
   ·subst g;rw[qz];exact Int.le_refl _
   ·exact h3 q hq g
  refine⟨fun q h=>?_,?_,fun pre' b a r' h q hq=>?_,fun pre' c b a r' h=>?_,fun t' r' h q hq=>?_,fun pre' t' h q hq=>?_⟩
  ·rcases List.mem_cons.mp h with rfl|h
   ·simp
   ·exact List.mem_append_left _ (hsub q h)
  ·refine List.pairwise_cons.mpr ⟨fun q hq=>hp q (hsub q hq),hup⟩
  ·-- edges
   rcases pre' with _|⟨x,pre'⟩
   ·simp only[List.nil_append,List.cons.injEq]at h
    obtain⟨rfl,rfl,rfl⟩:=h
    rcases List.mem_append.mp hq with hq|hq
    ·exact newedge q hq
    ·simp at hq;subst hq;rw[xn];exact Int.le_refl _
   ·simp only[List.cons_append,List.cons.injEq]at h
    obtain⟨rfl,h⟩:=h
    rcases List.mem_append.mp hq with hq|hq
    ·exact C.edge (pre++pre') b a r' (by rw[e2,h];simp) q hq
    ·simp at hq;subst hq
     have conv:∀(pre':List Pt)(b a:Pt)(r':List Pt),t::r=pre'++b::a::r'→0<cr a b q:=by
      intro pre'
      induction pre' using rf with
      |nil=>
       intro b a r' h
       simp only[List.nil_append,List.cons.injEq]at h
       obtain⟨rfl,rfl⟩:=h
       exact h4 a r' rfl
      |snoc pre' c ih=>
       intro b a r' h
       have h':t::r=pre'++c::b::(a::r'):=by rw[h];simp
       have hc:=ih c b (a::r') h'
       have up2:(c::b::a::r').Pairwise fun b a=>lx a b:=by
        have:=hup;rw[h']at this;exact(List.pairwise_append.mp this).2.1
       have hbc:lx b c:=(List.pairwise_cons.mp up2).1 b (.head _)
       have hab:lx a b:=(List.pairwise_cons.mp (List.pairwise_cons.mp up2).2).1 a (.head _)
       have hcl:c∈l:=hsub c (by rw[h'];simp)
       have tn:0<cr a b c:=C.turn (pre++pre') c b a r' (by rw[e2,h'];simp)
       exact uv hab hbc (hp c hcl) tn hc
     exact Int.le_of_lt (conv pre' b a r' h)
  ·rcases pre' with _|⟨x,pre'⟩
   ·simp only[List.nil_append,List.cons.injEq]at h
    obtain⟨rfl,rfl,h⟩:=h
    exact h4 a r' h
   ·simp only[List.cons_append,List.cons.injEq]at h
    obtain⟨rfl,h⟩:=h
    exact C.turn (pre++pre') c b a r' (by rw[e2,h];simp)
  ·cases h
   rcases List.mem_append.mp hq with hq|hq
   ·exact .inr (hp q hq)
   ·simp at hq;exact .inl hq
  ·rcases pre' with _|⟨x,pre'⟩
   ·simp at h
   ·simp only[List.cons_append,List.cons.injEq]at h
    obtain⟨rfl,h⟩:=h
    have hb:st=(pre++pre')++[t']:=by rw[e2,h];simp
    have ht':t'∈l:=C.sub t' (by rw[hb];simp)
    rcases List.mem_append.mp hq with hq|hq
    ·exact C.bot _ t' hb q hq
    ·simp at hq;subst hq;exact .inr (hp t' ht')
theorem xE:∀(l:List Pt),l.Pairwise lx→CI (bE l) l∧(l=[]↔bE l=[]):=by
 intro l
 induction l using rf with
 |nil=>exact fun _=>⟨CI.nil,by simp[bE]⟩
 |snoc l p ih=>
  intro h
  obtain⟨h1,_,h3⟩:=List.pairwise_append.mp h
  obtain⟨C,hne⟩:=ih h1
  rw[hI]
  exact⟨C.snoc (fun q hq=>h3 q hq p (by simp)) hne,by simp⟩
end HM
namespace HM
def neg(p:Pt):Pt:=(-p.1,-p.2)
theorem neg_neg(p:Pt):neg (neg p)=p:=by unfold neg;simp
theorem rS(a b c:Pt):cr (neg a) (neg b) (neg c)=cr a b c:=by unfold cr neg;grind
theorem FC{a b:Pt}:lx (neg a) (neg b)↔lx b a:=by unfold lx neg;constructor<;>intro h<;>(simp only at h ⊢;omega)
theorem sA(p:Pt):∀st:List Pt,ba (neg p) (st.map neg)=(ba p st).map neg
 |[]=>rfl
 |[_]=>rfl
 |b::a::r=>by
  show ba (neg p) (neg b::neg a::r.map neg)=_
  unfold ba
  rw[rS]
  split
  ·rfl
  ·exact sA p (a::r)
theorem uO(l:List Pt):bE (l.map neg)=(bE l).map neg:=by
 induction l using rf with
 |nil=>rfl
 |snoc l p ih=>rw[List.map_append,List.map_singleton,hI,hI,ih,sA,List.map_cons]
structure Chn (lt:Pt→Pt→Prop) (L l:List Pt):Prop where
 sub:∀p∈L,p∈l
 up:L.Pairwise lt
 edge:∀(k:Nat)(a b:Pt),L[k]? = some a→L[k+1]? = some b→∀q∈l,0≤cr a b q
 turn:∀(k:Nat)(a b c:Pt),L[k]? = some a→L[k+1]? = some b→L[k+2]? = some c→0<cr a b c
 fst:∀f,L[0]? = some f→∀q∈l,q=f∨lt f q
 lst:∀m,L[L.length-1]? = some m→∀q∈l,q=m∨lt q m
 ne:l≠[]→L≠[]
theorem AQ{L:List Pt}{k:Nat}{a b:Pt}(h1:L[k]? = some a)(h2:L[k+1]? = some b):∃pre r,L.reverse=pre++b::a::r:=by
 have e:L=L.take k++a::b::L.drop (k+2):=by
  obtain⟨hk,rfl⟩:=List.getElem?_eq_some_iff.mp h1
  obtain⟨hk2,rfl⟩:=List.getElem?_eq_some_iff.mp h2
  rw[←List.drop_eq_getElem_cons,←List.drop_eq_getElem_cons,List.take_append_drop]
 refine⟨(L.drop (k+2)).reverse,(L.take k).reverse,?_⟩
 conv=>lhs;rw[e]
 simp
theorem AO{L:List Pt}{k:Nat}{a b c:Pt}(h1:L[k]? = some a)(h2:L[k+1]? = some b)(h3:L[k+2]? = some c):∃pre r,L.reverse=pre++c::b::a::r:=by
 have e:L=L.take k++a::b::c::L.drop (k+3):=by
  obtain⟨hk,rfl⟩:=List.getElem?_eq_some_iff.mp h1
  obtain⟨hk2,rfl⟩:=List.getElem?_eq_some_iff.mp h2
  obtain⟨hk3,rfl⟩:=List.getElem?_eq_some_iff.mp h3
  rw[←List.drop_eq_getElem_cons,←List.drop_eq_getElem_cons,←List.drop_eq_getElem_cons,List.take_append_drop]
 refine⟨(L.drop (k+3)).reverse,(L.take k).reverse,?_⟩
 conv=>lhs;rw[e]
 simp
theorem qF{l:List Pt}(h:l.Pairwise lx):Chn lx (bE l).reverse l:=by
 obtain⟨C,hne⟩:=xE l h
 refine⟨fun p hp=>C.sub p (List.mem_reverse.mp hp),List.pairwise_reverse.mpr C.up,fun k a b h1 h2 q hq=>?_,fun k a b c h1 h2 h3=>?_,fun f hf q hq=>?_,fun m hm q hq=>?_,fun z w=>z (hne.mpr (by simpa using w))⟩
 ·obtain⟨pre,r,e⟩:=AQ h1 h2
  rw[List.reverse_reverse]at e
  exact C.edge pre b a r e q hq
 ·obtain⟨pre,r,e⟩:=AO h1 h2 h3
  rw[List.reverse_reverse]at e
  exact C.turn pre c b a r e
 ·cases hr:(bE l).reverse with
  |nil=>rw[hr]at hf;simp at hf
  |cons x r=>
   rw[hr]at hf
   have:x=f:=by simpa using hf
   subst this
   exact C.bot r.reverse x (by rw[←List.reverse_reverse (bE l),hr];simp) q hq
 ·cases hc:bE l with
  |nil=>rw[hc]at hm;simp at hm
  |cons t r=>
   rw[hc]at hm
   have:t=m:=by simpa using hm
   subst this
   exact C.top t r hc q hq
theorem yc{l:List Pt}(h:l.Pairwise lx):Chn (fun a b=>lx b a) (bE l.reverse).reverse l:=by
 have hp:(l.reverse.map neg).Pairwise lx:=List.pairwise_map.mpr ((List.pairwise_reverse.mpr h).imp fun g=>FC.mpr g)
 have B:=qF hp
 rw[uO,←List.map_reverse]at B
 have get:∀{k:Nat}{a:Pt},(bE l.reverse).reverse[k]? = some a→((bE l.reverse).reverse.map neg)[k]? = some (neg a):=fun {k a} e=>by rw[List.getElem?_map,e];rfl
 have mem:∀{q:Pt},q∈l→neg q∈l.reverse.map neg:=fun {q} hq=>List.mem_map.mpr ⟨q,List.mem_reverse.mpr hq,rfl⟩
 have inj:∀{a b:Pt},neg a=neg b→a=b:=fun {a b} e=>by rw[←neg_neg a,e,neg_neg]
 refine⟨fun p hp=>?_,(List.pairwise_map.mp B.up).imp fun g=>FC.mp g,fun k a b h1 h2 q hq=>?_,fun k a b c h1 h2 h3=>?_,fun f hf q hq=>?_,fun m hm q hq=>?_,fun z w=>B.ne (by simpa using z) (by rw[w];rfl)⟩
 ·obtain⟨x,hx,e⟩:=List.mem_map.mp (B.sub (neg p) (List.mem_map.mpr ⟨p,hp,rfl⟩))
  rw[←inj e];exact List.mem_reverse.mp hx
 ·rw[←rS];exact B.edge k _ _ (get h1) (get h2) _ (mem hq)
 ·rw[←rS];exact B.turn k _ _ _ (get h1) (get h2) (get h3)
 ·rcases B.fst (neg f) (get hf) (neg q) (mem hq) with e|e
  ·exact .inl (inj e)
  ·exact .inr (FC.mp e)
 ·rcases B.lst (neg m) (by rw[List.length_map];exact get hm) (neg q) (mem hq) with e|e
  ·exact .inl (inj e)
  ·exact .inr (FC.mp e)
def Col(l:List Pt):Prop:=∀x∈l,∀y∈l,∀z∈l,cr x y z=0
theorem par{a1 a2 y1 y2 z1 z2:Int}(ha:a1≠0∨a2≠0)(h1:a1*y2-a2*y1=0)(h2:a1*z2-a2*z1=0):y1*z2-y2*z1=0:=by
 rcases ha with h|h
 ·have:a1*(y1*z2-y2*z1)=0:=by
   have e:a1*(y1*z2-y2*z1)=y1*(a1*z2-a2*z1)-z1*(a1*y2-a2*y1):=by grind
   rw[e,h1,h2];simp
  exact(Int.mul_eq_zero.mp this).resolve_left h
 ·have:a2*(y1*z2-y2*z1)=0:=by
   have e:a2*(y1*z2-y2*z1)=y2*(a1*z2-a2*z1)-z2*(a1*y2-a2*y1):=by grind
   rw[e,h1,h2];simp
  exact(Int.mul_eq_zero.mp this).resolve_left h
theorem kr{l:List Pt}{a b:Pt}(hab:a≠b)(h:∀q∈l,cr a b q=0):Col l:=by
 intro x hx y hy z hz
 have ha:b.1-a.1≠0∨b.2-a.2≠0:=by
  by_cases e1:b.1-a.1=0
  ·by_cases e2:b.2-a.2=0
   ·exact absurd (Prod.ext (by omega) (by omega)) hab
   ·exact .inr e2
  ·exact .inl e1
 have g1:=par ha (h x hx) (h y hy)
 have g2:=par ha (h y hy) (h z hz)
 have g3:=par ha (h x hx) (h z hz)
 have e:cr x y z=((y.1-a.1)*(z.2-a.2)-(y.2-a.2)*(z.1-a.1))-((x.1-a.1)*(z.2-a.2)-(x.2-a.2)*(z.1-a.1))+((x.1-a.1)*(y.2-a.2)-(x.2-a.2)*(y.1-a.1)):=by unfold cr;grind
 rw[e,g1,g2,g3];rfl
theorem An{l:List Pt}{a m c:Pt}(h:(lx a m∧lx c m)∨(lx m a∧lx m c))(e1:∀q∈l,0≤cr a m q)(e2:∀q∈l,0≤cr m c q)(hc:c∈l)(hz:¬0<cr a m c):Col l:=by
 have h0:cr a m c=0:=by have:=e1 c hc;omega
 have ham:a≠m:=by rintro rfl;rcases h with ⟨h,_⟩|⟨h,_⟩<;>exact fY h
 refine kr ham fun q hq=>?_
 have g1:=e1 q hq
 have g2:=e2 q hq
 have k1:cr a m q*(m.1-c.1) = - cr m c q*(m.1-a.1)+cr a m c*(m.1-q.1):=by unfold cr;grind
 have k2:cr a m q*(m.2-c.2) = - cr m c q*(m.2-a.2)+cr a m c*(m.2-q.2):=by unfold cr;grind
 have k0:(m.1-a.1)*(m.2-c.2)-(m.2-a.2)*(m.1-c.1) = - cr a m c:=by unfold cr;grind
 rw[h0]at k0 k1 k2
 have zero:∀{u v s t:Int},0≤u→0≤v→0<s→0<t→u*s = - v*t+0*0→u=0:=fun {u v s t} hu hv hs ht e=>by
  have h1:0≤u*s:=Int.mul_nonneg hu (Int.le_of_lt hs)
  have h2:0≤v*t:=Int.mul_nonneg hv (Int.le_of_lt ht)
  have h3:-v*t = -(v*t):=by grind
  have:u*s=0:=by omega
  exact(Int.mul_eq_zero.mp this).resolve_right (by omega)
 rcases h with ⟨ha,hcm⟩|⟨ha,hcm⟩
 ·have ra:=fM ha
  have rc:=fM hcm
  rcases ra with p1|⟨z1,p1⟩
  ·have p2:0<m.1-c.1:=by
    rcases rc with p|⟨z,p⟩
    ·exact p
    ·rw[z]at k0;have:=Int.mul_pos p1 p;omega
   exact zero g1 g2 p2 p1 (by rw[k1];simp)
  ·have p2:0<m.2-c.2:=by
    rcases rc with p|⟨z,p⟩
    ·rw[z1]at k0;have:=Int.mul_pos p1 p;omega
    ·exact p
   exact zero g1 g2 p2 p1 (by rw[k2];simp)
 ·have ra:=fM ha
  have rc:=fM hcm
  rcases ra with p1|⟨z1,p1⟩
  ·have p2:0<c.1-m.1:=by
    rcases rc with p|⟨z,p⟩
    ·exact p
    ·have:=Int.mul_pos p1 p
     have e:(m.1-a.1)*(m.2-c.2)=(a.1-m.1)*(c.2-m.2):=by grind
     have e2:(m.2-a.2)*(m.1-c.1)=(m.2-a.2)*0:=by congr 1;omega
     rw[e,e2]at k0;omega
   have k1':cr a m q*(c.1-m.1) = - cr m c q*(a.1-m.1):=by grind
   exact zero g1 g2 p2 p1 (by rw[k1'];simp)
  ·have p2:0<c.2-m.2:=by
    rcases rc with p|⟨z,p⟩
    ·have:=Int.mul_pos p1 p
     have e:(m.2-a.2)*(m.1-c.1)=(a.2-m.2)*(c.1-m.1):=by grind
     have e2:(m.1-a.1)*(m.2-c.2)=0*(m.2-c.2):=by congr 1;omega
     rw[e,e2]at k0;omega
    ·exact p
   have k2':cr a m q*(c.2-m.2) = - cr m c q*(a.2-m.2):=by grind
   exact zero g1 g2 p2 p1 (by rw[k2'];simp)
end HM
namespace HM
def kn(l:List Pt):List Pt:=(bE l).reverse.dropLast++(bE l.reverse).reverse.dropLast
structure Poly (cs l:List Pt):Prop where
 three:3≤cs.length
 sub:∀p∈cs,p∈l
 edge:∀(k:Nat)(a b:Pt),cs[k % cs.length]? = some a→cs[(k+1) % cs.length]? = some b→∀q∈l,0≤cr a b q
 turn:∀(k:Nat)(a b c:Pt),cs[k % cs.length]? = some a→cs[(k+1) % cs.length]? = some b→cs[(k+2) % cs.length]? = some c→0<cr a b c
 fst:∀f,cs[0]? = some f→∀q∈l,q=f∨lx f q
 uniq:∀k:Nat,0<k→k<cs.length→cs[k]?≠cs[0]?
section
variable {B A l:List Pt}
theorem wM(hB:B≠[])(hA:A≠[])(ends:B[0]? = A[A.length-1]?∧A[0]? = B[B.length-1]?)(hd:1≤B.length-1)(hu:1≤A.length-1):
  (∀k,k≤B.length-1→(B.dropLast++A.dropLast)[k % (B.dropLast++A.dropLast).length]? = B[k]?) ∧
  (∀j,j≤A.length-1→(B.dropLast++A.dropLast)[(B.length-1+j) % (B.dropLast++A.dropLast).length]? = A[j]?):=by
 have hn:(B.dropLast++A.dropLast).length=(B.length-1)+(A.length-1):=by simp
 rw[hn]
 have g1:∀k,k<B.length-1→(B.dropLast++A.dropLast)[k]? = B[k]?:=fun k hk=>by
  rw[List.getElem?_append_left (by simpa using hk),List.getElem?_dropLast,if_pos hk]
 have g2:∀j,j<A.length-1→(B.dropLast++A.dropLast)[B.length-1+j]? = A[j]?:=fun j hj=>by
  rw[List.getElem?_append_right (by simp),List.length_dropLast,Nat.add_sub_cancel_left,List.getElem?_dropLast,if_pos hj]
 constructor
 ·intro k hk
  by_cases h:k<B.length-1
  ·rw[Nat.mod_eq_of_lt (by omega)];exact g1 k h
  ·have:k=B.length-1:=by omega
   subst this
   rw[Nat.mod_eq_of_lt (by omega)]
   have:=g2 0 (by omega)
   rw[Nat.add_zero]at this
   rw[this];exact ends.2
 ·intro j hj
  by_cases h:j<A.length-1
  ·rw[Nat.mod_eq_of_lt (by omega)];exact g2 j h
  ·have:j=A.length-1:=by omega
   subst this
   rw[Nat.mod_self,g1 0 (by omega)];exact ends.1
end
theorem get_mem{α:Type}{L:List α}{k:Nat}{a:α}(h:L[k]? = some a):a∈L:=List.mem_of_getElem? h
theorem jU{α:Type}{R:α→α→Prop}{L:List α}(h:L.Pairwise R){i j:Nat}{a b:α}(hij:i<j)(ha:L[i]? = some a)(hb:L[j]? = some b):R a b:=by
 obtain⟨hi,rfl⟩:=List.getElem?_eq_some_iff.mp ha
 obtain⟨hj,rfl⟩:=List.getElem?_eq_some_iff.mp hb
 exact List.pairwise_iff_getElem.mp h i j hi hj hij
theorem nq{l:List Pt}(h:l.Pairwise lx)(hc:¬Col l):Poly (kn l) l:=by
 have CB:=qF h
 have CA:=yc h
 unfold kn
 generalize (bE l).reverse=B at CB ⊢
 generalize (bE l.reverse).reverse=A at CA ⊢
 have hl:l≠[]:=by rintro rfl;exact hc fun x hx=>by simp at hx
 have hB:=CB.ne hl
 have hA:=CA.ne hl
 have lB:0<B.length:=List.length_pos_iff.mpr hB
 have lA:0<A.length:=List.length_pos_iff.mpr hA
 obtain⟨f,hf⟩:∃f,B[0]? = some f:=⟨_,List.getElem?_eq_getElem lB⟩
 obtain⟨m,hm⟩:∃m,B[B.length-1]? = some m:=⟨_,List.getElem?_eq_getElem (by omega)⟩
 obtain⟨m',hm'⟩:∃m,A[0]? = some m:=⟨_,List.getElem?_eq_getElem lA⟩
 obtain⟨f',hf'⟩:∃m,A[A.length-1]? = some m:=⟨_,List.getElem?_eq_getElem (by omega)⟩
 have ef:f=f':=by
  have h1:=CB.fst f hf f' (CA.sub _ (get_mem hf'))
  have h2:=CA.lst f' hf' f (CB.sub _ (get_mem hf))
  rcases h1 with e|e
  ·exact e.symm
  ·rcases h2 with e2|e2
   ·exact e2
   ·exact(fZ e e2).elim
 have em:m=m':=by
  have h1:=CB.lst m hm m' (CA.sub _ (get_mem hm'))
  have h2:=CA.fst m' hm' m (CB.sub _ (get_mem hm))
  rcases h1 with e|e
  ·exact e.symm
  ·rcases h2 with e2|e2
   ·exact e2
   ·exact(fZ e e2).elim
 subst ef;subst em
 have hfm:f≠m:=by
  rintro rfl
  refine hc fun x hx y hy z hz=>?_
  have same:∀q∈l,q=f:=fun q hq=>by
   rcases CB.fst f hf q hq with e|e
   ·exact e
   ·rcases CB.lst f hm q hq with e2|e2
    ·exact e2
    ·exact(fZ e e2).elim
  rw[same x hx,same y hy,same z hz];exact qz _ _
 have hd:1≤B.length-1:=by
  rcases Nat.lt_or_ge (B.length-1) 1 with q|q
  ·rw[show B.length-1=0 by omega,hf]at hm;exact absurd (Option.some.inj hm) hfm
  ·exact q
 have hu:1≤A.length-1:=by
  rcases Nat.lt_or_ge (A.length-1) 1 with q|q
  ·rw[show A.length-1=0 by omega,hm']at hf';exact absurd (Option.some.inj hf').symm hfm
  ·exact q
 obtain⟨gB,gA⟩:=wM hB hA ⟨by rw[hf,hf'],by rw[hm,hm']⟩ hd hu
 have hn:(B.dropLast++A.dropLast).length=(B.length-1)+(A.length-1):=by simp
 have three:3≤(B.dropLast++A.dropLast).length:=by
  rcases Nat.lt_or_ge (B.dropLast++A.dropLast).length 3 with q|q
  ·exfalso
   refine hc (kr hfm fun q hq=>?_)
   have h1:=CB.edge 0 f m hf (by rw[show 0+1=B.length-1 by omega];exact hm) q hq
   have h2:=CA.edge 0 m f hm' (by rw[show 0+1=A.length-1 by omega];exact hf') q hq
   rw[zY]at h2;omega
  ·exact q
 have red:∀(k t:Nat),(k+t) % (B.dropLast++A.dropLast).length=(k % (B.dropLast++A.dropLast).length+t) % (B.dropLast++A.dropLast).length:=fun k t=>by rw[Nat.mod_add_mod]
 refine⟨three,fun p hp=>?_,fun k a b h1 h2 q hq=>?_,fun k a b c h1 h2 h3=>?_,fun f0 hf0 q hq=>?_,fun k hk hkn he=>?_⟩
 ·rcases List.mem_append.mp hp with hp|hp
  ·exact CB.sub p ((List.dropLast_subset _ hp))
  ·exact CA.sub p ((List.dropLast_subset _ hp))
 ·rw[red k 1]at h2
  have hk:k % (B.dropLast++A.dropLast).length<(B.length-1)+(A.length-1):=by rw[←hn];exact Nat.mod_lt _ (by omega)
  generalize k % (B.dropLast++A.dropLast).length=k' at h1 h2 hk
  by_cases c1:k'<B.length-1
  ·have e1:=gB k' (by omega);have e2:=gB (k'+1) (by omega)
   rw[Nat.mod_eq_of_lt (by rw[hn];exact hk)]at e1
   rw[e1]at h1;rw[e2]at h2
   exact CB.edge k' a b h1 h2 q hq
  ·obtain⟨j,rfl⟩:∃j,k'=B.length-1+j:=⟨k'-(B.length-1),by omega⟩
   have e1:=gA j (by omega);have e2:=gA (j+1) (by omega)
   rw[Nat.mod_eq_of_lt (by rw[hn];exact hk)]at e1
   rw[e1]at h1;rw[show B.length-1+j+1=B.length-1+(j+1) by omega,e2]at h2
   exact CA.edge j a b h1 h2 q hq
 ·rw[red k 1]at h2;rw[red k 2]at h3
  have hk:k % (B.dropLast++A.dropLast).length<(B.length-1)+(A.length-1):=by rw[←hn];exact Nat.mod_lt _ (by omega)
  generalize k % (B.dropLast++A.dropLast).length=k' at h1 h2 h3 hk
  by_cases c1:k'<B.length-1
  ·have e1:=gB k' (by omega);have e2:=gB (k'+1) (by omega)
   rw[Nat.mod_eq_of_lt (by rw[hn];exact hk)]at e1
   rw[e1]at h1;rw[e2]at h2
   by_cases c2:k'+2≤B.length-1
   ·rw[gB (k'+2) c2]at h3
    exact CB.turn k' a b c h1 h2 h3
   ·have hk2:k'+1=B.length-1:=by omega
    have e3:=gA 1 hu
    rw[show k'+2=B.length-1+1 by omega,e3]at h3
    rw[hk2,hm]at h2
    have hb:m=b:=Option.some.inj h2
    subst hb
    rcases Int.lt_or_le 0 (cr a m c) with g|g
    ·exact g
    ·exfalso
     refine hc (An (a:=a) (m:=m) (c:=c) (.inl ⟨jU CB.up (by omega) h1 hm,jU CA.up (by omega) hm' h3⟩) (CB.edge k' a m h1 (by rw[hk2];exact hm)) (CA.edge 0 m c hm' h3) (CA.sub _ (get_mem h3)) (Int.not_lt.mpr g))
  ·obtain⟨j,rfl⟩:∃j,k'=B.length-1+j:=⟨k'-(B.length-1),by omega⟩
   have e1:=gA j (by omega);have e2:=gA (j+1) (by omega)
   rw[Nat.mod_eq_of_lt (by rw[hn];exact hk)]at e1
   rw[e1]at h1;rw[show B.length-1+j+1=B.length-1+(j+1) by omega,e2]at h2
   by_cases c2:j+2≤A.length-1
   ·rw[show B.length-1+j+2=B.length-1+(j+2) by omega,gA (j+2) c2]at h3
    exact CA.turn j a b c h1 h2 h3
   ·have hj2:j+1=A.length-1:=by omega
    rw[show B.length-1+j+2=(B.dropLast++A.dropLast).length+1 by rw[hn];omega,Nat.add_mod_left,gB 1 hd]at h3
    rw[hj2,hf']at h2
    have hb:f=b:=Option.some.inj h2
    subst hb
    rcases Int.lt_or_le 0 (cr a f c) with g|g
    ·exact g
    ·exfalso
     refine hc (An (a:=a) (m:=f) (c:=c) (.inr ⟨jU CA.up (by omega) h1 hf',jU CB.up (by omega) hf h3⟩) (CA.edge j a f h1 (by rw[hj2];exact hf')) (CB.edge 0 f c hf h3) (CB.sub _ (get_mem h3)) (Int.not_lt.mpr g))
 ·have:=gB 0 (by omega)
  rw[Nat.zero_mod,hf]at this
  rw[this]at hf0
  have e:f=f0:=Option.some.inj hf0
  subst e
  exact CB.fst f hf q hq
 ·have g0:=gB 0 (by omega)
  rw[Nat.zero_mod,hf]at g0
  rw[g0]at he
  by_cases c1:k≤B.length-1
  ·have e1:=gB k c1
   rw[Nat.mod_eq_of_lt hkn,he]at e1
   exact fY (jU CB.up hk hf e1.symm)
  ·obtain⟨j,rfl⟩:∃j,k=B.length-1+j:=⟨k-(B.length-1),by omega⟩
   have e1:=gA j (by omega)
   rw[Nat.mod_eq_of_lt hkn,he]at e1
   exact fY (jU CA.up (by omega) e1.symm hf')
end HM
namespace GS
open PySem PySem.W PyProof.Rows HM
section
variable {prog:Program}{w:World}{A:Around}{E:Value→Shared→Prop}{s:Shared}
def fy(prog:Program)(w:World)(h:Heap)(vs:List Value)(ps:List Pt):Prop:=
 vs.length=ps.length∧∀(i:Nat)(v:Value)(p:Pt),vs[i]? = some v→ps[i]? = some p→∃b,v=.ref b∧TK prog w h [p.1,p.2] b
theorem pair_items {h:Heap} {x y:Int} {b:Addr} (k:TK prog w h [x,y] b):∃o n t u,h.get? b=some o∧o.cls=.type "tuple"∧o.data=.seq #[.int x t,.int y u] n:=by
 obtain⟨o,items,n,ho,hc,hd,hi⟩:=k
 obtain⟨l⟩:=items
 have one:∀{z:Int}{v:Value},(intKind prog w).is z v=true→∃t,v=.int z t:=fun {z v} hz=>by
  cases v<;>simp[intKind,Value.isInt]at hz
  exact⟨_,by rw[hz]⟩
 cases hi with
 |cons h1 r1=>
  cases r1 with
  |cons h2 r2=>
   cases r2
   obtain⟨t,rfl⟩:=one h1
   obtain⟨u,rfl⟩:=one h2
   exact⟨o,n,t,u,ho,hc,hd⟩
theorem zc{p q:Pt}{a b:Addr}{Q:Bool→Shared→Prop}(hp:TK prog w s.heap [p.1,p.2] a)(hq:TK prog w s.heap [q.1,q.2] b)(h:Q (decide (lx p q)) s):
  wpAny (model prog w) A (keyLt' (tuples' true) (.ref a) (.ref b)) Q E s:=by
 obtain⟨o1,n1,t1,u1,g1,_,d1⟩:=pair_items hp
 obtain⟨o2,n2,t2,u2,g2,_,d2⟩:=pair_items hq
 refine kat_lt g1 d1 g2 d2 (kat_cons (wpAny_eqBool_int (kat_go (fun e1=>kat_yes (kat_cons (wpAny_eqBool_int (kat_go (fun e2=>kat_yes (kat_nil ?_)) fun e2=>kat_no (kat_one _ _ ?_))))) fun e1=>kat_no ?_)))
 ·have z1:p.1=q.1:=by simpa using e1
  have z2:p.2=q.2:=by simpa using e2
  have:decide (lx p q)=false:=decide_eq_false (by unfold lx;omega)
  rw[this]at h
  simpa using h
 ·have z1:p.1=q.1:=by simpa using e1
  have:decide (lx p q)=decide (p.2<q.2):=decide_eq_decide.mpr (by unfold lx;omega)
  rw[this]at h
  exact lt_int h
 ·have z1:p.1≠q.1:=by simpa using e1
  have:decide (lx p q)=decide (p.1<q.1):=decide_eq_decide.mpr (by unfold lx;omega)
  rw[this]at h
  simp only[Bool.true_and,beq_self_eq_true]
  exact oneLt_int h
theorem fy.keep {h h':Heap} {vs:List Value} {ps:List Pt} {a:Addr} {o:Obj} (x:fy prog w h vs ps) (ho:h.get? a=some o) (hc:o.cls≠.type "tuple") (hk:∀b o,b≠a→h.get? b=some o→h'.get? b=some o):fy prog w h' vs ps:=
 ⟨x.1,fun i v p h1 h2=>by
  obtain⟨b,e,o',items,n,ho',hc',hd',hi⟩:=x.2 i v p h1 h2
  refine⟨b,e,o',items,n,hk b o' ?_ ho',hc',hd',hi⟩
  rintro rfl
  rw[ho']at ho
  cases ho
  exact hc hc'⟩
theorem qS {a:Addr} {vs:List Value} {n:Nat} {P:PySem.Fin→Shared→Prop} {ps:List Pt} (ho:s.heap.get? a=some (seqObj "list" vs.toArray n)) (h64:vs.length<64) (hp:fy prog w s.heap vs ps) (hn:ps.Nodup)
  (h:∀(h':Heap) (vs':List Value) (ps':List Pt) (n':Nat),h'.get? a=some (seqObj "list" vs'.toArray n')→(∀b o,b≠a→s.heap.get? b=some o→h'.get? b=some o)→ps'.Perm ps→ps'.Pairwise lx→fy prog w h' vs' ps'→(∀v∈vs',v∈vs)→P (.done (.ret .none)) { s with heap:=h' }):
  wpAny (model prog w) A (Builtin.«list.sort» ⟨[.ref a],[]⟩) P E s:=by
 have hal:a<s.heap.objs.size:=Heap.lt_size ho
 have hcl:(seqObj "list" vs.toArray n).cls≠.type "tuple":=by show Value.type "list"≠_;decide
 rw[list_sort_plain]
 refine wpAny_bind (listItems_at ho rfl (wpAny_bind (listUpdate_at ho rfl ?_ (by rw[List.size_toArray,sizeLine_eq];omega) (Nat.zero_le _))))
 obtain⟨e1,ho1⟩:∃e1,(s.heap.update a (Obj.mapSeq fun _=>(#[]:Array Value))).get? a=some (seqObj "list" #[] e1):=⟨_,get?_update_seq ho fun _=>#[]⟩
 refine wpAny_bind (seqEpoch_at ho1 rfl (wpAny_bind (wpAny_newTuple (wpAny_bind (wpAny_newList (wpAny_holding ?_) (Nat.zero_le _))) (by show vs.length≤_;rw[sizeLine_eq];omega))))
 generalize hH:(((s.heap.update a (Obj.mapSeq fun _=>(#[]:Array Value))).push (seqObj "tuple" vs.toArray 0)).push (seqObj "list" #[] 0))=h3
 have k3:∀b o,b≠a→s.heap.get? b=some o→h3.get? b=some o:=fun b o hb e=>by
  rw[←hH]
  exact Heap.get?_push_of_some _ (Heap.get?_push_of_some _ (((Heap.SameBut.update s.heap a _).2 b hb).trans e))
 have o3:h3.get? a=some (seqObj "list" #[] e1):=by rw[←hH];exact Heap.get?_push_of_some _ (Heap.get?_push_of_some _ ho1)
 change wpAny (model prog w) A _ P E { s with heap:=h3 }
 have hp3:=hp.keep ho hcl k3
 dsimp only
 have last:∀(st:SortSt)(vs':List Value)(ps':List Pt),(arrOf st).map (·.2)=vs'.toArray→failedOf st=none→vs'.length<64→ps'.Perm ps→ps'.Pairwise lx→fy prog w h3 vs' ps'→(∀v∈vs',v∈vs) →
   wpAny (model prog w) A (do
    let touched:=(←seqEpoch a) != e1
    Builtin.List.listUpdate (.ref a) fun _=>(arrOf st).map (·.2)
    if let some e:=failedOf st then rule "list.sort.comparison-raised";throw e
    if touched then rule "list.sort.modified";raiseError "ValueError" "list modified during sort"
    ret .none) P E { s with heap:=h3 }:=by
  intro st vs' ps' ha hf hl q1 q2 q3 q4
  refine wpAny_bind (seqEpoch_at o3 rfl (wpAny_bind (listUpdate_at o3 rfl ?_ (Nat.zero_le _) (by show((arrOf st).map (·.2)).size≤_;rw[ha,List.size_toArray,sizeLine_eq];omega))))
  rw[hf]
  simp only[bne_self_eq_false,Bool.false_eq_true,if_false]
  refine wpAny_pure ?_
  obtain⟨c2,hc2⟩:∃c2,(h3.update a (Obj.mapSeq fun _=>(arrOf st).map (·.2))).get? a=some (seqObj "list" ((arrOf st).map (·.2)) c2):=⟨_,get?_update_seq o3 fun _=>(arrOf st).map (·.2)⟩
  rw[ha]at hc2 ⊢
  have k4:∀b o,b≠a→h3.get? b=some o→(h3.update a (Obj.mapSeq fun _=>vs'.toArray)).get? b=some o:=fun b o hb e=>((Heap.SameBut.update h3 a _).2 b hb).trans e
  exact h _ vs' ps' c2 hc2 (fun b o hb e=>k4 b o hb (k3 b o hb e)) q1 q2 (q3.keep o3 (by show Value.type "list"≠_;decide) k4) q4
 by_cases h2:vs.toArray.size<2
 ·rw[if_pos h2,if_pos h2]
  refine wpAny_bind (wpAny_pure ?_)
  rw[StateT.run_pure]
  refine wpAny_bind (wpAny_pure ?_)
  refine last (SortSt.mk' general' (vs.toArray.zip vs.toArray) #[] 7 none) vs ps ?_ rfl h64 (List.Perm.refl _) ?_ hp3 (fun v hv=>hv)
  ·show(vs.toArray.zip vs.toArray).map (·.2)=_
   apply Array.toList_inj.mp
   simp[List.map_snd_zip]
  ·have hl:ps.length<2:=by rw[←hp.1];simpa using h2
   match ps,hl with
   |[],_=>exact .nil
   |[_],_=>exact List.pairwise_singleton _ _
 ·rw[if_neg h2,if_neg h2]
  have hvn:2≤vs.length:=by have:vs.toArray.size=vs.length:=(by simp);omega
  have at_:∀i,i<vs.length→∃b,vs.getD i Value.none=.ref b∧TK prog w h3 [(ps.getD i (0,0)).1,(ps.getD i (0,0)).2] b:=fun i hi=>by
   have e1:vs[i]? = some (vs.getD i Value.none):=by simp[List.getD,List.getElem?_eq_getElem hi]
   have e2:ps[i]? = some (ps.getD i (0,0)):=by simp[List.getD,List.getElem?_eq_getElem (show i<ps.length by rw[←hp.1];exact hi)]
   exact hp3.2 i _ _ e1 e2
  obtain⟨fs,hfl,hfT,hfi⟩:∃fs:List Value,fs.length=vs.length∧KatTups h3 vs fs∧∀v∈fs,∃x t,v=Value.int x t:=by
   have key:∀(vs:List Value)(ps:List Pt),fy prog w h3 vs ps→∃fs:List Value,fs.length=vs.length∧KatTups h3 vs fs∧∀v∈fs,∃x t,v=Value.int x t:=by
    intro vs
    induction vs with
    |nil=>intro ps _;exact⟨[],rfl,KatTups.nil,fun v hv=>by simp at hv⟩
    |cons v vs ih=>
     intro ps hq
     match ps,hq with
     |[],hq=>exact absurd hq.1 (by simp)
     |p::ps,hq=>
      obtain⟨fs,l1,l2,l3⟩:=ih ps ⟨by simpa using hq.1,fun i v p a b=>hq.2 (i+1) v p (by simpa using a) (by simpa using b)⟩
      obtain⟨b,rfl,tk⟩:=hq.2 0 v p rfl rfl
      obtain⟨o,m,t,u,g1,g2,g3⟩:=pair_items tk
      exact⟨.int p.1 t::fs,by simp[l1],KatTups.cons g1 g2 g3 rfl l2,fun v hv=>by
       rcases List.mem_cons.mp hv with rfl|hv
       ·exact⟨_,_,rfl⟩
       ·exact l3 v hv⟩
   exact key vs ps hp3
  refine wpAny_bind (kat_kind (s:={ s with heap:=h3 }) (T:=.type "int") hfT (by omega) (fun v hv=>?_) (by decide) ?_)
  ·obtain⟨x,t,rfl⟩:=hfi v hv
   exact Looks.of_pure rfl
  have O:SOrd (fun i j=>decide (lx (ps.getD i (0,0)) (ps.getD j (0,0)))) vs.length:=by
   refine⟨fun i _=>decide_eq_false (fun z=>fY z),fun i j k _ _ _ z1 z2=>?_,fun i j hi hj hij z=>?_,fun i j _ _ z=>?_⟩
   ·have z1':=of_decide_eq_false z1
    have z2':=of_decide_eq_false z2
    refine decide_eq_false fun z=>?_
    unfold lx at *
    omega
   ·have z':=of_decide_eq_false z
    rcases rD (ps.getD i (0,0)) (ps.getD j (0,0)) with q|q|q
    ·exact absurd q z'
    ·exfalso
     have hi':i<ps.length:=by rw[←hp.1];exact hi
     have hj':j<ps.length:=by rw[←hp.1];exact hj
     have q':ps[i]=ps[j]:=by simpa[List.getD,List.getElem?_eq_getElem hi',List.getElem?_eq_getElem hj'] using q
     rcases Nat.lt_or_ge i j with g|g
     ·exact List.pairwise_iff_getElem.mp hn i j hi' hj' g q'
     ·exact List.pairwise_iff_getElem.mp hn j i hj' hi' (by omega) q'.symm
    ·exact decide_eq_true q
   ·have z':=of_decide_eq_true z
    exact decide_eq_false fun y=>fZ z' y
  have eb:(Value.type "int" != Value.type "tuple")=true:=by decide
  rw[eb]
  refine wpAny_bind (wpAny_mono (kat_run (s:={ s with heap:=h3 }) (vs:=vs) (ks:=vs) (Q:=fun st' s'=>s' = { s with heap:=h3 }∧∃p:Array Nat,p.size=vs.length∧arrOf st'=p.map (kas_item (vs.toArray.zip vs.toArray))∧failedOf st'=none∧PIn vs.length p∧SS (fun i j=>decide (lx (ps.getD i (0,0)) (ps.getD j (0,0)))) p vs.length) (G:=fun p s'=>s' = { s with heap:=h3 }∧PIn vs.length p∧SS (fun i j=>decide (lx (ps.getD i (0,0)) (ps.getD j (0,0)))) p vs.length) rfl hvn h64 (fun p st' s' z1 z2 z3 z4=>⟨z4.1,p,z1,z2,z3,z4.2⟩)
   (wK (fun i j C hi hj hC=>?_) (fun p hpp=>⟨rfl,hpp.1,hpp.2⟩) _ (yp O hvn))) ?_ fun _ _ e=>e)
  rotate_left
  ·rintro⟨⟨⟩,st'⟩ s' ⟨rfl,p,z1,z2,z3,PI,ss⟩
   dsimp only
   refine last st' (p.toList.map fun i=>vs.getD i Value.none) (p.toList.map fun i=>ps.getD i (0,0)) (kat_snds rfl z2) z3 (by rw[List.length_map,Array.length_toList,z1];exact h64) ?_ ?_ ?_ ?_
   ·refine(PI.perm.map _).trans (List.Perm.of_eq ?_)
    rw[hp.1]
    apply List.ext_getElem?
    intro i
    rw[List.getElem?_map]
    rcases Nat.lt_or_ge i ps.length with q|q
    ·rw[List.getElem?_eq_getElem (by simpa using q),List.getElem_range,List.getElem?_eq_getElem q]
     simp[List.getD,List.getElem?_eq_getElem q]
    ·rw[List.getElem?_eq_none (by simpa using q),List.getElem?_eq_none q];rfl
   ·rw[List.pairwise_map,List.pairwise_iff_getElem]
    intro i j hi hj hij
    have:=ss i j hij (by rw[←z1];simpa using hj)
    have gi:gt p i=p.toList[i]:=by
     have:i<p.size:=by simpa using hi
     simp[gt,Array.getD,this]
    have gj:gt p j=p.toList[j]:=by
     have:j<p.size:=by simpa using hj
     simp[gt,Array.getD,this]
    rw[gi,gj]at this
    exact of_decide_eq_true this
   ·refine⟨by simp,fun i v q g1 g2=>?_⟩
    rw[List.getElem?_map]at g1 g2
    cases hpi:p.toList[i]? with
    |none=>rw[hpi]at g1;cases g1
    |some m=>
     rw[hpi]at g1 g2
     have hm:m<vs.length:=List.mem_range.mp (PI.perm.mem_iff.mp (List.mem_of_getElem? hpi))
     have e1:vs.getD m Value.none=v:=Option.some.inj g1
     have e2:ps.getD m (0,0)=q:=Option.some.inj g2
     subst e2;subst e1
     exact at_ m hm
   ·intro v hv
    obtain⟨m,hm,rfl⟩:=List.mem_map.mp hv
    have hm':m<vs.length:=List.mem_range.mp (PI.perm.mem_iff.mp hm)
    simp[List.getD,List.getElem?_eq_getElem hm']
  ·unfold kas_ask
   obtain⟨b1,e1,t1⟩:=at_ i hi
   obtain⟨b2,e2,t2⟩:=at_ j hj
   rw[e1,e2]
   exact zc (s:={ s with heap:=h3 }) t1 t2 hC
end
end GS
namespace GS
open PySem PySem.W PySem.Calls PyProof.Rows HM
section
variable {prog:Program}{w:World}{A:Around}{E:Value→Shared→Prop}{s:Shared}{U:Value→Prop}
theorem xf {r:Addr} {Q:Bool→Shared→Prop} (hT:s.TypeIs (.ref r) "set") (h:Q false s):wpAny (model prog w) A (Builtin.List.listLengthHint (.ref r)) Q E s:=by
 unfold Builtin.List.listLengthHint
 refine wpAny_bind (wpAny_specialOf hT PySem.F.slot_set_len.lookup ?_)
 generalize hid:("set.__len__":String)=lenId
 wp_delta
 rw[show splitId lenId=some ("set","__len__") from by subst hid;decide +kernel]
 subst hid
 refine wpAny_bind (wpAny_isInstance (b:=true) (T:="set") hT (by rw[isSubtype_type];kernel_rfl) (wpAny_ite_split (fun z=>absurd z (by decide)) fun _=>wpAny_ite_split (fun _=>?_) fun z=>absurd (by decide +kernel) z))
 exact wpAny_bind (wpAny_typeOf hT (wpAny_pure h))
theorem yo {a:Addr} {es:Array (Int×Value)} {ep:Nat} {t:SetTable} (T:TInv t (es.toList.map (·.1))) (hl:t.led = !w.params.followText "set-order") (hp:t.plain=true):
  KdlSrc prog w "set" a a es.size (fun i v=>∃e,(cY w a es ep)[i]? = some e∧v=e.2) (fun h=>h.get? a=some (cM es ep t)) where
 type:=fun _ hm=>⟨_,hm,rfl⟩
 there:=fun _ hm=>⟨Heap.lt_size hm,Heap.lt_size hm⟩
 keep:=fun _ _ hm hk=>hk a (.inl rfl) _ hm
 notList:=by decide
 notTuple:=by decide
 hint:=fun _ _ _ _ hm hq=>xf ⟨_,hm,rfl⟩ hq
 iter:=fun A' s' hh hm=>⟨_,_,(fun _ _ hq=>wO hm T hp hq),tJ hh _ a (Nat.ne_of_lt (Heap.lt_size hm)) es ep t T hl hp,⟨⟨_,Heap.get?_push_size _ rfl,rfl,by unfold slotAt;split<;>rfl⟩,Heap.get?_push_of_some _ hm⟩⟩
theorem qC{a:Addr}{es:Array (Int×Value)}{ep:Nat}{t:SetTable}{M:List Pt}{Q:Value→Shared→Prop}(hh:A.handled=none)(ho:s.heap.get? a=some (cM es ep t))(S:SGI prog w U s.heap es t (M.map fun p=>[p.1,p.2]))(hM:M.length<64)
  (h:∀(h1 h':Heap) (tk n':Nat) (vs':List Value) (ps':List Pt),(∀b o,s.heap.get? b=some o→h1.get? b=some o)→h'.get? h1.objs.size=some (seqObj "list" vs'.toArray n')→(∀b o,h1.get? b=some o→h'.get? b=some o)→ps'.Pairwise lx→(∀p,p∈ps'↔p∈M)→fy prog w h' vs' ps'→(∀v∈vs',U v)→Q (.ref h1.objs.size) { s with heap:=h',toks:=tk }):
  wpAny (model prog w) A (call (.builtin "sorted") [.ref a]) Q E s:=by
 have hes:es.size<64:=by have:=S.size;rw[List.length_map]at this;omega
 refine call_function_entry kind_sorted plain_sorted entry_sorted (args_sorted1 _) ?_
 unfold Builtin.«sorted»
 refine wpAny_bind (m:=checkCount "sorted" 1 1 _) (wpAny_pure (wpAny_bind (kdu_collect (A:=A.in1) (yo (ep:=ep) S.tab S.led S.plain) hh ho (by rw[sizeLine_eq];omega) fun h1 tk acc hk hacc=>?_)))
 have hal:acc.toList.length=es.size:=by rw[Array.length_toList];exact hacc.1
 refine wpAny_bind (wpAny_newList ?_ (by rw[hal,sizeLine_eq];omega))
 have hperm:=kY w a es ep
 have hacl:acc.toList=(cY w a es ep).toList.map (·.2):=by
  apply List.ext_getElem?
  intro i
  rw[List.getElem?_map,Array.getElem?_toList,Array.getElem?_toList]
  cases hi:acc[i]? with
  |none=>
   have:acc.size≤i:=by
    rcases Nat.lt_or_ge i acc.size with q|q
    ·rw[Array.getElem?_eq_getElem q]at hi;cases hi
    ·exact q
   rw[Array.getElem?_eq_none (by rw[iW,←hacc.1];exact this)];rfl
  |some v=>
   obtain⟨e,he,rfl⟩:=hacc.2 i v hi
   rw[he];rfl
 have tkkeep:∀{k b},TK prog w s.heap k b→TK prog w h1 k b:=fun {k b} ⟨o,items,n,g,r⟩=>⟨o,items,n,hk b o g,r⟩
 obtain⟨ps,hlen,hps⟩:∃ps:List Pt,ps.length=(cY w a es ep).toList.length∧∀(i:Nat)(e:Int×Value)(p:Pt),(cY w a es ep).toList[i]? = some e→ps[i]? = some p→p∈M∧Ent prog w s.heap e [p.1,p.2]:=by
  have key:∀(L:List (Int×Value)),(∀e∈L,e∈es.toList)→∃ps:List Pt,ps.length=L.length∧∀(i:Nat)(e:Int×Value)(p:Pt),L[i]? = some e→ps[i]? = some p→p∈M∧Ent prog w s.heap e [p.1,p.2]:=by
   intro L
   induction L with
   |nil=>intro _;exact⟨[],rfl,fun i e p z=>by simp at z⟩
   |cons e L ih=>
    intro hL
    obtain⟨ps,l1,l2⟩:=ih fun e' he'=>hL e' (.tail _ he')
    obtain⟨k,hkM,hek⟩:=S.sub e (hL e (.head _))
    obtain⟨p,hpM,rfl⟩:=List.mem_map.mp hkM
    refine⟨p::ps,by simp[l1],fun i e' p' z1 z2=>?_⟩
    cases i with
    |zero=>
     have e1:e=e':=by simpa using z1
     have e2:p=p':=by simpa using z2
     subst e1;subst e2;exact⟨hpM,hek⟩
    |succ i=>exact l2 i e' p' (by simpa using z1) (by simpa using z2)
  exact key _ fun e he=>hperm.mem_iff.mp he
 have hP:fy prog w (h1.push { cls:=.type "list",data:=.seq acc.toList.toArray }) acc.toList ps:=by
  refine⟨by rw[hacl,List.length_map,hlen],fun i v p z1 z2=>?_⟩
  rw[hacl,List.getElem?_map]at z1
  cases hi:(cY w a es ep).toList[i]? with
  |none=>rw[hi]at z1;cases z1
  |some e=>
   rw[hi]at z1
   have:e.2=v:=Option.some.inj z1
   subst this
   obtain⟨_,b,e1,tk1,_⟩:=hps i e p hi z2
   obtain⟨o,items,n,g,r⟩:=tkkeep tk1
   exact⟨b,e1,o,items,n,Heap.get?_push_of_some _ g,r⟩
 have hN:ps.Nodup:=by
  have hd:(cY w a es ep).toList.Pairwise fun e e'=>∀k,Ent prog w s.heap e k→¬Ent prog w s.heap e' k:=(hperm.pairwise_iff (fun {e e'} q k' x1 x2=>q k' x2 x1)).mpr S.dist
  rw[List.nodup_iff_pairwise_ne,List.pairwise_iff_getElem]
  intro i j hi hj hij e
  have hi':i<(cY w a es ep).toList.length:=by rw[←hlen];exact hi
  have hj':j<(cY w a es ep).toList.length:=by rw[←hlen];exact hj
  have z1:=hps i _ _ (List.getElem?_eq_getElem hi') (List.getElem?_eq_getElem hi)
  have z2:=hps j _ _ (List.getElem?_eq_getElem hj') (List.getElem?_eq_getElem hj)
  rw[←e]at z2
  exact List.pairwise_iff_getElem.mp hd i j hi' hj' hij _ z1.2 z2.2
 have hmem:∀p,p∈ps↔p∈M:=fun p=>by
  constructor
  ·intro hp
   obtain⟨i,hi⟩:=List.mem_iff_getElem?.mp hp
   have hil:i<(cY w a es ep).toList.length:=by rw[←hlen];exact(List.getElem?_eq_some_iff.mp hi).1
   exact(hps i _ p (List.getElem?_eq_getElem hil) hi).1
  ·intro hp
   obtain⟨e,he,hek⟩:=S.all [p.1,p.2] (List.mem_map.mpr ⟨p,hp,rfl⟩)
   obtain⟨i,hi⟩:=List.mem_iff_getElem?.mp (hperm.mem_iff.mpr he)
   have hil:i<ps.length:=by rw[hlen];exact(List.getElem?_eq_some_iff.mp hi).1
   have z:=(hps i e _ hi (List.getElem?_eq_getElem hil)).2
   have:=hek.inj z
   have e2:p=ps[i]:=by
    have q1:p.1=ps[i].1:=by injection this
    have q2:p.2=ps[i].2:=by injection this with _ q;injection q
    exact Prod.ext q1 q2
   rw[e2];exact List.getElem_mem hil
 have hoL:(h1.push { cls:=.type "list",data:=.seq acc.toList.toArray }).get? h1.objs.size=some (seqObj "list" acc.toList.toArray 0):=Heap.get?_push_size _ rfl
 refine wpAny_bind (wpAny_holding (wpAny_call_entry slot_list_sort ⟨_,hoL,rfl⟩ entry_list_sort (qS (s:={ s with heap:=h1.push { cls:=.type "list",data:=.seq acc.toList.toArray },toks:=tk }) hoL (by rw[hal];exact hes) hP hN fun h' vs' ps' n' g k' p1 p2 p3 p4=>⟨_,rfl,?_⟩) (args_list_sort _)))
 refine wpAny_pure ⟨_,rfl,h h1 h' tk n' vs' ps' hk g (fun b o e=>k' b o (Nat.ne_of_lt (Heap.lt_size e)) (Heap.get?_push_of_some _ e)) p2 (fun p=>(p1.mem_iff).trans (hmem p)) p3 fun v hv=>?_⟩
 have:=p4 v hv
 rw[hacl]at this
 obtain⟨e,he,rfl⟩:=List.mem_map.mp this
 exact S.good e (hperm.mem_iff.mp he)
end
end GS
namespace GS
open PySem PySem.W PySem.Calls PyProof.Rows
section
variable {prog:Program}{w:World}{A:Around}{E:Value→Shared→Prop}{s:Shared}{T:String}{I:Addr}{fp wr:List Addr}{n:Nat}{P:Nat→Value→Prop}{St:Nat→Heap→Prop}
structure ItS (prog:Program) (w:World) (T:String) (I:Addr) (fp wr:List Addr) (n:Nat) (P:Nat→Value→Prop) (St:Nat→Heap→Prop):Prop where
 walk:∀A:Around,A.handled=none→Walks prog w A I fp wr n P St
 ty:∀(i:Nat)(s:Shared),St i s.heap→s.TypeIs (.ref I) T
 nl:(Value.type T==Value.type "list")=false
 nt:(Value.type T==Value.type "tuple")=false
 hint:∀(A:Around)(E:Value→Shared→Prop)(s:Shared)(Q:Bool→Shared→Prop),St 0 s.heap→(∀b,Q b s)→wpAny (model prog w) A (Builtin.List.listLengthHint (.ref I)) Q E s
 mem:I∈fp
theorem uC {R:Result→Shared→Prop} (K:ItS prog w T I fp wr n P St) (hh:A.handled=none) (S:Addr) (hSf:S∉fp) (res:Value) (c₀:Nat) (st:St 0 s.heap) (hS:s.heap.get? S=some { cls:=.type "list",data:=.seq #[] c₀ })
  (hR:∀h' tk acc' c',(∀b o,b∉S::wr→s.heap.get? b=some o→h'.get? b=some o)→h'.get? S=some { cls:=.type "list",dict:=none,data:=.seq acc' c',slots:=#[] }→ItemsOf P acc' n→R (.ok (.ret res)) { s with heap:=h',toks:=tk }) (hn:n≤sizeLine):
  wpAny (model prog w) A.in1 (Builtin.List.listExtendWith (.ref S) (.ref I) res)
   (fun fin s'=>match fin with | .done f=>R (.ok f) s' | .again c'=>c'.quiet=true∧codeAny (model prog w) A c' R s') (fun e s'=>R (.error e) s') s:=by
 have W:=K.walk A.in1 hh
 have hSI:S≠I:=fun e=>hSf (by rw[e];exact K.mem)
 have key:∀(h:Heap) (c₁ tk:Nat),St 0 h→(∀b o,b≠S→s.heap.get? b=some o→h.get? b=some o)→h.get? S=some { cls:=.type "list",data:=.seq #[] c₁ } →
   codeAny (model prog w) A (.builtin "list.extend.loop" ⟨[.ref S,.ref I,res],[]⟩) R { s with heap:=h,toks:=tk }:=fun h c₁ tk hst hk hS₁=>by
  refine codeAny_extend_loopS W.toS hn S hSf res n 0 _ #[] c₁ rfl (Nat.zero_le _) hst hS₁ (ItemsOf.nil _) fun s' acc' c' mv hS' hacc=>?_
  rw[Moved.eq_with mv]
  exact hR s'.heap s'.toks acc' c' (fun b o hb e=>mv.heap b o hb (hk b o (fun z=>hb (by rw[z];exact .head _)) e)) hS' hacc
 unfold Builtin.List.listExtendWith
 refine wpAny_bind (wpAny_typeOf (T:=T) (K.ty 0 s st) ?_)
 have z1:Builtin.List.listSameRef (.ref S) (.ref I)=false:=by simp[Builtin.List.listSameRef,hSI]
 simp only[z1,K.nl,K.nt,Bool.or_false,Bool.false_eq_true,if_false]
 refine wpAny_bind (W.self 0 _ _ _ st (wpAny_bind (wpAny_holding (K.hint _ _ _ _ st fun room=>?_))))
 refine wpAny_ite_split (fun _=>?_) (fun _=>wpAny_pure ⟨plainId_quiet PySem.F.plain_extend_loop _,key _ c₀ _ st (fun b o _ e=>e) hS⟩)
 refine wpAny_bind (wpAny_rule (wpAny_bind ?_))
 change wpAny _ _ (updateSeq S (·.push .none) >>= fun _=>updateSeq S (·.pop)) _ _ _
 refine wpAny_bind (wpAny_updateSeq hS rfl ?_)
 have hS2:=Heap.get?_update_self (Obj.mapSeq (·.push Value.none)) hS rfl
 refine wpAny_updateSeq (hz:=by seq_fits) hS2 rfl ?_
 have hS3:=Heap.get?_update_self (Obj.mapSeq (·.pop)) hS2 rfl
 have oth:∀b o,b≠S→s.heap.get? b=some o→((s.heap.update S (Obj.mapSeq (·.push Value.none))).update S (Obj.mapSeq (·.pop))).get? b=some o:=fun b o hb e=>
  (Heap.get?_update_other _ _ (Ne.symm hb)).trans ((Heap.get?_update_other _ _ (Ne.symm hb)).trans e)
 exact wpAny_pure ⟨plainId_quiet PySem.F.plain_extend_loop _,key _ _ _ (W.frame 0 _ _ st fun b hb o e=>oth b o (fun z=>hSf (z▸hb)) e) oth hS3⟩
theorem zI{Q:Value→Shared→Prop}(K:ItS prog w T I fp wr n P St)(hh:A.handled=none)(st:St 0 s.heap)(hfp:∀b∈fp,b<s.heap.objs.size)(hn:n≤sizeLine)
  (hQ:∀h' tk acc' c',(∀b o,b∉wr→s.heap.get? b=some o→h'.get? b=some o)→h'.get? s.heap.objs.size=some { cls:=.type "list",dict:=none,data:=.seq acc' c',slots:=#[] }→ItemsOf P acc' n→Q (.ref s.heap.objs.size) { s with heap:=h',toks:=tk }):
  wpAny (model prog w) A (call (.type "list") [.ref I]) Q E s:=by
 refine callType_codes (Q₁:=fun obj s₁=>obj=.ref s.heap.objs.size∧s₁ = { s with heap:=s.heap.push { cls:=.type "list",data:=.seq #[] } }) PySem.F.called_list (PySem.F.typeCall_list_1 _) PySem.F.entry_list_init (code_list_new _ ⟨rfl,rfl⟩) fun obj s₁ h₁=>?_
 obtain⟨rfl,rfl⟩:=h₁
 have gS:(s.heap.push { cls:=.type "list",data:=.seq #[] }).get? s.heap.objs.size=some { cls:=.type "list",data:=.seq #[] }:=Heap.get?_push_size _ rfl
 have hSf:s.heap.objs.size∉fp:=fun z=>Nat.lt_irrefl _ (hfp _ z)
 have W:=K.walk A hh
 refine⟨⟨_,gS,rfl⟩,PySem.F.args_list_init_2 _ _,?_⟩
 change wpAny _ _ (do let old ←Builtin.List.listItems (.ref s.heap.objs.size);Builtin.List.listUpdate (.ref s.heap.objs.size) (fun _=>#[]);letGo old.toList.reverse;Builtin.List.listExtendWith (.ref s.heap.objs.size) (.ref I) .none) _ _ _
 refine wpAny_bind ?_
 unfold Builtin.List.listItems
 refine wpAny_bind (wpAny_seqItems gS rfl (wpAny_pure ?_))
 change wpAny _ _ (updateSeq s.heap.objs.size (fun _=>#[]) >>= fun _=>letGo (#[]:Array Value).toList.reverse >>= fun _=>Builtin.List.listExtendWith (.ref s.heap.objs.size) (.ref I) .none) _ _ _
 refine wpAny_bind (wpAny_updateSeq gS rfl (wpAny_bind (wpAny_letGo ?_)))
 have g2:=Heap.get?_update_self (Obj.mapSeq (fun _=>(#[]:Array Value))) gS rfl
 have oth:∀b o,b≠s.heap.objs.size→(s.heap.push { cls:=.type "list",data:=.seq #[] }).get? b=some o→((s.heap.push { cls:=.type "list",data:=.seq #[] }).update s.heap.objs.size (Obj.mapSeq (fun _=>(#[]:Array Value)))).get? b=some o:=fun b o hb e=>(Heap.get?_update_other _ _ (Ne.symm hb)).trans e
 refine uC (A:=A.in1) K hh _ hSf .none _ (W.frame 0 _ _ st fun b hb o e=>oth b o (fun z=>hSf (z▸hb)) (Heap.get?_push_of_some _ e)) g2 (fun h' tk acc' c' hk hS' hacc=>?_) hn
 exact⟨rfl,hQ h' tk acc' c' (fun b o hb e=>hk b o (fun z=>by
  rcases List.mem_cons.mp z with z|z
  ·exact Nat.lt_irrefl _ (z▸Heap.lt_size e)
  ·exact hb z) (oth b o (Nat.ne_of_lt (Heap.lt_size e)) (Heap.get?_push_of_some _ e))) hS' hacc⟩
namespace FR
theorem no_len:typeLookup (.type "list_reverseiterator") "__len__" = pure none:=by rw[typeLookup_type,builtinLookup_eq_fast];kernel_rfl
theorem has_hint:typeLookup (.type "list_reverseiterator") "__length_hint__" = pure (some (.builtin "list_reverseiterator.__length_hint__")):=by rw[typeLookup_type,builtinLookup_eq_fast];kernel_rfl
end FR
theorem vy {r:Addr} {Q:Bool→Shared→Prop} (hT:s.TypeIs (.ref r) "list_reverseiterator") (h:∀b,Q b s):wpAny (model prog w) A (Builtin.List.listLengthHint (.ref r)) Q E s:=by
 unfold Builtin.List.listLengthHint
 refine wpAny_bind (wpAny_specialOf hT FR.no_len ?_)
 change wpAny _ _ (specialOf (Value.ref r) (Str.ofString "__length_hint__") >>= _) _ _ _
 refine wpAny_bind (wpAny_specialOf hT FR.has_hint ?_)
 generalize hid:("list_reverseiterator.__length_hint__":String)=hintId
 wp_delta
 rw[show splitId hintId=some ("list_reverseiterator","__length_hint__") from by subst hid;decide +kernel]
 subst hid
 refine wpAny_bind (wpAny_isInstance (b:=true) (T:="list_reverseiterator") hT (by rw[isSubtype_type];kernel_rfl) (wpAny_ite_split (fun z=>absurd z (by decide)) fun _=>wpAny_ite_split (fun _=>?_) fun z=>absurd (by decide +kernel) z))
 exact wpAny_ite_split (fun z=>absurd z (by decide)) fun _=>wpAny_pure (h false)
theorem yy (I l:Addr) (hne:l≠I) (items:Array Value):ItS prog w "list_reverseiterator" I [I,l] [I] items.size (fun i v=>items[items.size-1-i]? = some v) (fun i h=>i≤items.size∧h.IsRevIter I l ((items.size:Int)-1-(i:Int))∧h.IsList l items) where
 walk:=fun A hh=>Walks.listRev hh I l hne items
 ty:=fun i s st=>st.2.1.typeIs
 nl:=by decide
 nt:=by decide
 hint:=fun _ _ _ _ st h=>vy st.2.1.typeIs h
 mem:=by simp
theorem mK{l:Addr}{items:Array Value}{Q:Value→Shared→Prop}(hh:A.handled=none)(hl:s.heap.IsList l items)(hn:items.size≤sizeLine)
  (h:∀(h1 h':Heap) (tk c:Nat),(∀b o,s.heap.get? b=some o→h1.get? b=some o)→(∀b o,b≠s.heap.objs.size→h1.get? b=some o→h'.get? b=some o)→s.heap.objs.size<h1.objs.size→h'.get? h1.objs.size=some { cls:=.type "list",dict:=none,data:=.seq items.toList.reverse.toArray c,slots:=#[] }→Q (.ref h1.objs.size) { s with heap:=h',toks:=tk }):
  wpAny (model prog w) A (call (.type "reversed") [.ref l]) (fun u s1=>wpAny (model prog w) A (call (.type "list") [u]) Q E s1) E s:=by
 refine call_reversed_list hl ?_
 have hls:l<s.heap.objs.size:=by obtain⟨o,ho,_⟩:=hl;exact Heap.lt_size ho
 have szp:(s.heap.push (revObj l ((items.size:Int)-1))).objs.size=s.heap.objs.size+1:=Heap.size_push _ _
 refine zI (s:={ s with heap:=s.heap.push (revObj l ((items.size:Int)-1)) }) (yy s.heap.objs.size l (Nat.ne_of_lt hls) items) hh ⟨Nat.zero_le _,⟨_,Heap.get?_push_size _ rfl,rfl,by simp[revObj]⟩,hl.push _⟩ (fun b hb=>?_) hn fun h' tk acc c hk hD hacc=>?_
 ·show b<(s.heap.push _).objs.size
  rw[szp]
  rcases List.mem_cons.mp hb with rfl|hb
  ·exact Nat.lt_succ_self _
  ·rw[List.mem_singleton.mp hb];exact Nat.lt_succ_of_lt hls
 ·have ea:acc=items.toList.reverse.toArray:=by
   apply Array.toList_inj.mp
   show acc.toList=items.toList.reverse
   apply List.ext_getElem?
   intro i
   rw[Array.getElem?_toList]
   rcases Nat.lt_or_ge i items.size with q|q
   ·have hi:i<acc.size:=by rw[hacc.1];exact q
    have z:=hacc.2 i _ (Array.getElem?_eq_getElem hi)
    rw[Array.getElem?_eq_getElem hi,List.getElem?_reverse (by simpa using q),Array.length_toList,Array.getElem?_toList,z]
   ·rw[Array.getElem?_eq_none (by rw[hacc.1];exact q),List.getElem?_eq_none (by simpa using q)]
  rw[ea]at hD
  exact h _ h' tk c (fun b o e=>Heap.get?_push_of_some _ e) (fun b o hb e=>hk b o (by simp;exact hb) e) (by rw[szp];exact Nat.lt_succ_self _) hD
end
end GS
namespace G
open PySem PySem.Spec PyProof.Rows L2 GS HM
section
variable {X:Cx}
def mz(X:Cx)(f g:Value)(r:List V→Hp→VK→Prop):Prop:=
 ∀(pins:List (Addr×Obj))(s:Shared)(σ:L2.St)(H:Hp)(xs:List V)(us:List Value)(Q:VK),Inv X pins σ H s→Vals xs us→r xs H Q →
  wpAny (model X.prog X.w) X.A (call g us) (fun u s1=>wpAny (model X.prog X.w) X.A (call f [u]) (EP X pins σ Q) X.xe s1) X.xe s
inductive Blt:Value→Prop where
 |fn (id:String):Blt (.builtin id)
 |ty (T:String):Blt (.type T)
theorem with1{f:Value}(hf:Blt f){A:Around}{env:Env}{E:Value→Shared→Prop}{M:Model}{s:Shared}{pos:Pos}{e:Expr}{rest:List Expr}{Q:Value→Shared→Prop}
  (h:wpAny M A (spliced (backTo pos (starEach (e::rest) env))) (fun vs s₁=>wpAny M A (call f vs) Q E s₁) E s)
  (he:starEach (e::rest) env=(false,eval e env)::starEach rest env) (hp:(backTo pos (starEach rest env)).any (·.1)=false):
  wpAny M A (callWith pos f [] (backTo pos (starEach (e::rest) env)) []) Q E s:=by
 cases hf with
 |fn id=>exact callWith_builtin1 h he hp
 |ty T=>exact callWith_type1 h he hp
theorem og{f g:Value}{x y:Str}{p p2 pos pos2:Pos}{e:Expr}{es:List Expr}{r:List V→Hp→VK→Prop}{t:TA}(bf:Blt f)(bg:Blt g)(hc:mz X f g r)(hgx:Gl X x)(hmx:X.mg x=none)(hvx:bootBuiltins x=some f)(hgy:Gl X y)(hmy:X.mg y=none)(hvy:bootBuiltins y=some g)
  (ha:PA X (e::es) t) (hnx:x≠"__name__") (hny:y≠"__name__") (hdx:(x==("__debug__":Str))=false) (hdy:(y==("__debug__":Str))=false)
  (he:starEach (e::es) X.env=(false,eval e X.env)::starEach es X.env) (hpl:(backTo pos2 (starEach es X.env)).any (·.1)=false)
  (he2:starEach [.Call (.Name y p2) (e::es) [] pos2] X.env=[(false,eval (.Call (.Name y p2) (e::es) [] pos2) X.env)]):
  PE X (.Call (.Name x p) [.Call (.Name y p2) (e::es) [] pos2] [] pos) (tCB r t):=by
 intro pins s σ H Q I h
 refine wpAny_Call_Name_kw (jc I hgx hmx hvx ?_ hnx hdx)
 refine with1 bf ?_ he2 rfl
 rw[he2]
 change wpAny _ _ (spliced ((false,eval (.Call (.Name y p2) (e::es) [] pos2) X.env)::[])) _ _ s
 refine Calls.spliced_cons ?_
 refine wpAny_Call_Name_kw (jc I hgy hmy hvy ?_ hny hdy)
 exact with1 bg (thn (ha pos2 pins s σ H _ I h) fun us s1 ⟨vs,H1,I1,r1,q1⟩=>thn (hc pins s1 σ H1 vs us Q I1 r1 q1) fun u s2 q=>Calls.spliced_nil q) he hpl
end
def ptP(p:Pt):PV:=.tup [.int p.1,.int p.2]
def CL:PV→Option Pt
 |.tup [.int x,.int y]=>some (x,y)
 |_=>none
def md:List PV→Option (List Pt)
 |[]=>some []
 |p::ps=>match CL p,md ps with
  |some q,some qs=>some (q::qs)
  |_,_=>none
theorem xW{p:PV}{q:Pt}(h:CL p=some q):p=ptP q:=by
 unfold CL at h
 split at h
 ·cases h;rfl
 ·cases h
theorem nK:∀{ps:List PV}{qs:List Pt},md ps=some qs→ps=qs.map ptP
 |[],qs,h=>by cases h;rfl
 |p::ps,qs,h=>by
  unfold md at h
  split at h
  ·rename_i q qs' h1 h2
   cases h
   rw[xW h1,nK h2];rfl
  ·cases h
theorem nJ:∀(qs:List Pt),md (qs.map ptP)=some qs
 |[]=>rfl
 |q::qs=>by
  show md (ptP q::qs.map ptP)=_
  unfold md
  rw[nJ qs]
  rfl
def jv(p:Pt):List Pt→List Pt
 |[]=>[p]
 |q::r=>if lx p q then p::q::r else if p=q then q::r else q::jv p r
def br(ps:List Pt):List Pt:=ps.foldr jv []
theorem lV(p:Pt):∀(l:List Pt)(x:Pt),x∈jv p l↔x=p∨x∈l
 |[],x=>by simp[jv]
 |q::r,x=>by
  unfold jv
  split
  ·simp
  ·split
   ·rename_i h;subst h;simp
   ·rw[List.mem_cons,lV p r x,List.mem_cons]
    constructor
    ·rintro(h|h|h)
     ·exact .inr (.inl h)
     ·exact .inl h
     ·exact .inr (.inr h)
    ·rintro(h|h|h)
     ·exact .inr (.inl h)
     ·exact .inl h
     ·exact .inr (.inr h)
theorem sP(p:Pt):∀(l:List Pt),l.Pairwise lx→(jv p l).Pairwise lx
 |[],_=>List.pairwise_singleton _ _
 |q::r,h=>by
  obtain⟨h1,h2⟩:=List.pairwise_cons.mp h
  unfold jv
  split
  ·rename_i hp
   refine List.pairwise_cons.mpr ⟨fun x hx=>?_,h⟩
   rcases List.mem_cons.mp hx with rfl|hx
   ·exact hp
   ·exact qc hp (h1 x hx)
  ·rename_i hp
   split
   ·exact h
   ·rename_i hne
    refine List.pairwise_cons.mpr ⟨fun x hx=>?_,sP p r h2⟩
    rcases(lV p r x).mp hx with rfl|hx
    ·rcases rD x q with g|g|g
     ·exact absurd g hp
     ·exact absurd g hne
     ·exact g
    ·exact h1 x hx
theorem jl:∀(ps:List Pt),(br ps).Pairwise lx
 |[]=>.nil
 |p::ps=>sP p _ (jl ps)
theorem fH:∀(ps:List Pt)(x:Pt),x∈br ps↔x∈ps
 |[],x=>by simp[br]
 |p::ps,x=>by
  show x∈jv p (br ps)↔_
  rw[lV,fH ps,List.mem_cons]
theorem m7:∀{a b:List Pt},a.Pairwise lx→b.Pairwise lx→(∀x,x∈a↔x∈b)→a=b
 |[],[],_,_,_=>rfl
 |[],q::b,_,_,h=>by have:=(h q).mpr (.head _);simp at this
 |p::a,[],_,_,h=>by have:=(h p).mp (.head _);simp at this
 |p::a,q::b,ha,hb,h=>by
  obtain⟨a1,a2⟩:=List.pairwise_cons.mp ha
  obtain⟨b1,b2⟩:=List.pairwise_cons.mp hb
  have e:p=q:=by
   rcases List.mem_cons.mp ((h p).mp (.head _)) with e|hp
   ·exact e
   ·rcases List.mem_cons.mp ((h q).mpr (.head _)) with e|hq
    ·exact e.symm
    ·exact(fZ (a1 q hq) (b1 p hp)).elim
  subst e
  rw[m7 a2 b2 fun x=>?_]
  constructor
  ·intro hx
   rcases List.mem_cons.mp ((h x).mp (.tail _ hx)) with e|hx'
   ·subst e;exact(fY (a1 x hx)).elim
   ·exact hx'
  ·intro hx
   rcases List.mem_cons.mp ((h x).mpr (.tail _ hx)) with e|hx'
   ·subst e;exact(fY (b1 x hx)).elim
   ·exact hx'
def Ah(K:PySem.W.Frag)(H:Hp)(v:V)(p:Pt):Prop:=∃b,v=.ref b∧SqT K H b [.int p.1,.int p.2]
section
variable {X:Cx}{pins:List (Addr×Obj)}{τ:L2.St}{H:Hp}{s:Shared}
theorem Al(I:Inv X pins τ H s){b:Addr}{x y:Int}(h:SqT X.K H b [.int x,.int y]):TK X.prog X.w s.heap [x,y] b:=by
 obtain⟨its,r,o,e,c,n,d⟩:=tup_is I h
 obtain⟨u,w',rfl,⟨t1,rfl⟩,⟨t2,rfl⟩⟩:=vals2 r
 exact⟨o,_,n,e,c,d,.cons (by simp[intKind,Value.isInt]) (.cons (by simp[intKind,Value.isInt]) .nil)⟩
theorem AI{h:Heap}{p q:Pt}{b:Addr}(h1:TK X.prog X.w h [p.1,p.2] b)(h2:TK X.prog X.w h [q.1,q.2] b):p=q:=by
 have:=h1.inj h2
 have e1:p.1=q.1:=by injection this
 have e2:p.2=q.2:=by injection this with _ z;injection z
 exact Prod.ext e1 e2
theorem ez:∀{xs:List V}{us:List Value}{i:Nat}{u:Value},Vals xs us→us[i]? = some u→∃x,xs[i]? = some x∧RelV x u
 |_,_,i,_,.nil,e=>by simp at e
 |_,_,0,_,.cons r _,e=>by simp at e;subst e;exact⟨_,rfl,r⟩
 |_,_,i+1,u,.cons _ t,e=>by
  obtain⟨x,h1,h2⟩:=ez (i:=i) (u:=u) t (by simpa using e)
  exact⟨x,by simpa using h1,h2⟩
def toV:Value→V
 |.ref b=>.ref b
 |_=>.non
theorem rW (hc:X.calm=true) (hu:X.A.units+20<cLine):mz X (.builtin "sorted") (.type "set") (fun xs H Q=>∃l vs ps,xs=[.ref l]∧SqL X.K H l vs∧ps.length≤63∧vs.length=ps.length∧(∀(i:Nat) (v:V) (p:Pt),vs[i]? = some v→ps[i]? = some p→Ah X.K H v p) ∧
  ∀D vs',H D=none→vs'.length=(br ps).length→(∀(i:Nat)(v:V)(q:Pt),vs'[i]? = some v→(br ps)[i]? = some q→∃j:Nat,vs[j]? = some v∧ps[j]? = some q)→Q (.ref D) (upd H D (.lst vs'))):=by
 intro pins s σ H xs us Q I r h
 obtain⟨l,vs,ps,rfl,hl,h63,hlen,hpr,q⟩:=h
 obtain⟨u,rfl,ru⟩:=vals1 r
 cases ru
 obtain⟨its,rv,pl,hz⟩:=I.list hl
 have hh:=I.ok.hd hc
 have il:s.heap.IsList l its.toArray:=pl.isList
 have lits:its.length=ps.length:=by rw[←rv.length];exact hlen
 refine xF (U:=fun u=>∃v∈vs,RelV v u) (ks:=ps.map fun p=>[p.1,p.2]) hh (by omega) il (by simp[lits]) (by simp[lits];exact h63) (fun i v hv=>?_) (fun v hv=>?_) fun h1 tk1 hS k1=>?_
 ·have hv':its[i]? = some v:=by simpa using hv
  obtain⟨x,hx,rx⟩:=ez rv hv'
  have hi:i<ps.length:=by rw[←lits];exact(List.getElem?_eq_some_iff.mp hv').1
  obtain⟨b,rfl,hb⟩:=hpr i x ps[i] hx (List.getElem?_eq_getElem hi)
  cases rx
  exact⟨b,[ps[i].1,ps[i].2],rfl,by rw[List.getElem?_map,List.getElem?_eq_getElem hi];rfl,Al I hb⟩
 ·have hv':v∈its:=by simpa using hv
  obtain⟨i,hi⟩:=List.mem_iff_getElem?.mp hv'
  obtain⟨x,hx,rx⟩:=ez rv hi
  exact⟨x,List.mem_of_getElem? hx,rx⟩
 obtain⟨es,ep,t,ho,S⟩:=hS
 refine qC (s:={ s with heap:=h1,toks:=tk1 }) hh ho S (by omega) fun h2 h' tk n' vs' ps' k2 hD k3 hpw hmem hat hU=>?_
 have e:ps'=br ps:=m7 hpw (jl ps) fun x=>(hmem x).trans (fH ps x).symm
 subst e
 have kk:∀b o,s.heap.get? b=some o→h'.get? b=some o:=fun b o z=>k3 b o (k2 b o (k1 b o z))
 have I2:Inv X pins σ H { s with heap:=h2,toks:=tk1 }:=I.kept fun b o z=>k2 b o (k1 b o z)
 have hvals:Vals (vs'.map toV) vs':=by
  have key:∀(L:List Value),(∀v∈L,∃b,v=Value.ref b)→Vals (L.map toV) L:=by
   intro L
   induction L with
   |nil=>intro _;exact .nil
   |cons v L ih=>
    intro hL
    obtain⟨b,rfl⟩:=hL v (.head _)
    exact .cons rfl (ih fun v' hv'=>hL v' (.tail _ hv'))
  refine key vs' fun v hv=>?_
  obtain⟨i,hi⟩:=List.mem_iff_getElem?.mp hv
  have hil:i<(br ps).length:=by rw[←hat.1];exact(List.getElem?_eq_some_iff.mp hi).1
  obtain⟨b,e,_⟩:=hat.2 i v _ hi (List.getElem?_eq_getElem hil)
  exact⟨b,e⟩
 have hvl:vs'.length≤63:=by
  have:=hat.1
  have h3:(br ps).length≤ps.length:=by
   have:∀(L:List Pt),(br L).length≤L.length:=by
    intro L
    induction L with
    |nil=>exact Nat.le_refl _
    |cons p L ih=>
     have ins:∀(M:List Pt),(jv p M).length≤M.length+1:=by
      intro M
      induction M with
      |nil=>exact Nat.le_refl _
      |cons m M ihm=>
       unfold jv
       split
       ·simp
       ·split
        ·simp
        ·simp only[List.length_cons];omega
     have:=ins (br L)
     show(jv p (br L)).length≤_
     simp only[List.length_cons];omega
   exact this ps
  omega
 refine⟨.ref h2.objs.size,upd H h2.objs.size (.lst (vs'.map toV)),?_,rfl,q _ _ (I2.hok.fresh (Nat.le_refl _)) (by rw[List.length_map];exact hat.1) fun i v p hv hp=>?_⟩
 ·exact I2.laid (t':=tk) (o:=.lst (vs'.map toV)) k3 (Nat.le_refl _) ⟨by rw[List.length_map,sizeLine_eq];omega,vs',n',hvals,hD⟩
 ·rw[List.getElem?_map]at hv
  cases hi:vs'[i]? with
  |none=>rw[hi]at hv;cases hv
  |some u=>
   rw[hi]at hv
   obtain⟨b,rfl,tkb⟩:=hat.2 i u p hi hp
   have ev:v=.ref b:=(Option.some.inj hv).symm
   subst ev
   obtain⟨v0,hv0,rv0⟩:=hU _ (List.mem_of_getElem? hi)
   have e0:v0=.ref b:=by
    cases v0 with
    |ref b'=>have z:Value.ref b=Value.ref b':=rv0;injection z with z;rw[z]
    |non=>exact absurd rv0 (by intro z;cases z)
    |bl _=>exact absurd rv0 (by intro z;cases z)
    |int _=>obtain⟨_,z⟩:=rv0;cases z
    |str _=>obtain⟨_,z⟩:=rv0;cases z
    |byt _=>obtain⟨_,z⟩:=rv0;cases z
    |flt _=>obtain⟨_,z⟩:=rv0;cases z
    |ty _=>exact absurd rv0 (by intro z;cases z)
   subst e0
   obtain⟨j,hj⟩:=List.mem_iff_getElem?.mp hv0
   have hjl:j<ps.length:=by rw[←hlen];exact(List.getElem?_eq_some_iff.mp hj).1
   obtain⟨b',eb,hb'⟩:=hpr j _ ps[j] hj (List.getElem?_eq_getElem hjl)
   cases eb
   have t1:=Al I hb'
   have t2:TK X.prog X.w h' [ps[j].1,ps[j].2] b:=by
    obtain⟨o,items,n,g,z⟩:=t1
    exact⟨o,items,n,kk b o g,z⟩
   have:=AI t2 tkb
   rw[←this]
   exact⟨j,hj,List.getElem?_eq_getElem hjl⟩
end
end G
namespace G
open PySem PySem.Spec PyProof.Rows L2 GS HM
section
variable {X:Cx}{H0 Hs0:Hp}{a b:Expr}{da db:DE}{p p2 pos pos2:Pos}
theorem gK{K:PySem.W.Frag}{H:Hp}:∀{vs:List V}{ps:List PV},vs.length=ps.length→(∀(i:Nat)(v:V)(p:PV),vs[i]? = some v→ps[i]? = some p→Rep K H v p)→Reps K H vs ps
 |[],[],_,_=>.nil
 |[],_::_,h,_=>by simp at h
 |_::_,[],h,_=>by simp at h
 |v::vs,p::ps,h,g=>.cons (g 0 v p rfl rfl) (gK (by simpa using h) fun i v p a b=>g (i+1) v p (by simpa using a) (by simpa using b))
def eW:PV→Res PV
 |.lst xs=>match md xs with
  |some ps=>if ps.length≤63 then .ok (.lst ((br ps).map ptP)) else .stuck
  |none=>.stuck
 |_=>.stuck
theorem AY{K:PySem.W.Frag}{H:Hp}{v:V}{q:Pt}(r:Rep K H v (ptP q)):Ah K H v q:=by
 obtain⟨b,xs,rfl,ht,rs⟩:=r.tup_inv
 obtain⟨v1,v2,rfl,r1,r2⟩:=rs.two_inv
 cases r1.int_inv;cases r2.int_inv
 exact⟨b,rfl,ht⟩
theorem Ah.mono{K:PySem.W.Frag}{H H':Hp}{v:V}{q:Pt}(e:bc H H')(h:Ah K H v q):Ah K H' v q:=let⟨b,z,t⟩:=h;⟨b,z,bL e t⟩
theorem ud (hc:X.calm=true) (hu:X.A.units+20<cLine) (ha:QE X H0 Hs0 a da) (hg1:Gl X "sorted") (hm1:X.mg "sorted" = none) (hg2:Gl X "set") (hm2:X.mg "set" = none)
  (he:starEach [a] X.env=[(false,eval a X.env)]) (he2:starEach [.Call (.Name "set" p2) [a] [] pos2] X.env=[(false,eval (.Call (.Name "set" p2) [a] [] pos2) X.env)]):
  QE X H0 Hs0 (.Call (.Name "sorted" p) [.Call (.Name "set" p2) [a] [] pos2] [] pos) (e1 eW da):=by
 refine PE.imp (og (.fn _) (.ty _) (rW hc hu) hg1 hm1 (by decide +kernel) hg2 hm2 (by decide +kernel) (cJ ha fD he) (by decide) (by decide) (by decide) (by decide) he rfl he2) fun τ H Q h=>?_
 refine RE.mono (one h) fun x H1 ⟨Hs,q,i,r,h1⟩=>?_
 unfold eW at h1
 split at h1
 ·rename_i xs
  split at h1
  ·rename_i ps hps
   split at h1
   ·rename_i h63
    obtain⟨ad,vs,rfl,hl,rs⟩:=r.lst_inv
    have exs:=nK hps
    subst exs
    have lv:vs.length=ps.length:=by rw[rs.length,List.length_map]
    have each:∀(j:Nat)(v:V)(p:Pt),vs[j]? = some v→ps[j]? = some p→Rep X.K Hs v (ptP p):=fun j v p h2 h3=>by
     obtain⟨v',h4,r4⟩:=rs.get (i:=j) (p:=ptP p) (by rw[List.getElem?_map,h3];rfl)
     rw[h2]at h4;cases h4;exact r4
    refine⟨ad,vs,ps,rfl,SqL.of (i _ _ hl),h63,lv,fun j v p h2 h3=>(AY (each j v p h2 h3)).mono i,fun D vs' hD hlen hv=>?_⟩
    refine h1 _ _ _ (.new i hD) (.lst aC (Reps.mono (bM (i.free hD)) (gK (by rw[List.length_map];exact hlen) fun j v p h2 h3=>?_)))
    rw[List.getElem?_map]at h3
    cases hj:(br ps)[j]? with
    |none=>rw[hj]at h3;cases h3
    |some q=>
     rw[hj]at h3
     have:ptP q=p:=Option.some.inj h3
     subst this
     obtain⟨k,h4,h5⟩:=hv j v q h2 hj
     exact each k v q h4 h5
   ·exact h1.elim
  ·exact h1.elim
 ·exact h1.elim
end
end G
namespace G
open PySem PySem.Spec PyProof.Rows L2 GS HM
section
variable {X:Cx}{H0 Hs0:Hp}{a b:Expr}{da db:DE}{pos np apos cpos p p2 pos2:Pos}{x:Str}
theorem A8 {i:Nat} (hN:X.N[i]? = some x) (hv:Vis X.env.scope x) (hd:(x==("__debug__":Str))=false) (hcd:(x==("__classdict__":Str))=false)
  (hbase:attributeBase (.Name x np) "pop" X.env (eval (.Name x np) X.env)=eval (.Name x np) X.env) (hline:(apos.endLine==cpos.line)=true)
  (hsw:swapsWith (.Call (.Attribute (.Name x np) "pop" apos) [] [] cpos) none pos.line X.env=pure false):
  QS X H0 Hs0 (.Expr (.Call (.Attribute (.Name x np) "pop" apos) [] [] cpos) pos) (t6 i):=by
 intro pins s τ H D I ⟨Hs,σ,S,h⟩
 refine n9 (BE PySem.F.plainAttrs_list PySem.F.slot_list_pop PySem.F.type_list_pop BR (i7 hN hv hd hcd) hbase hline) hsw pins s τ H D I ?_
 unfold t6 at h
 split at h
 ·rename_i xs e
  split at h
  ·exact h.elim
  ·rename_i hne
   obtain⟨v,e1,ad,vs,rfl,h1,h2,h3,h4⟩:=S.slot i _ e
   have hl:vs.length≠0:=by rw[h4.length];exact fun z=>hne (List.length_eq_zero_iff.mp z)
   refine⟨_,e1,.inl ⟨rfl,vs,SqL.of h1⟩,ad,vs,vs[vs.length-1]'(by omega),rfl,rfl,h1,List.getElem?_eq_getElem (by omega),?_⟩
   exact h Hs _ τ (bc.refl _) (S.write i e e1 h2 h3 h4.dropLast)
 ·exact h.elim
theorem u9 (i:Nat) (ha:XE X H0 Hs0 a da) (hN:X.N[i]? = some x:=by rfl) (hv:Vis X.env.scope x:=by first|exact Or.inl rfl|exact Or.inr (Or.inl rfl)|exact Or.inr (Or.inr rfl)) (hd:(x==("__debug__":Str))=false:=by decide) (hcd:(x==("__classdict__":Str))=false:=by decide)
  (hbase:attributeBase (.Name x np) "append" X.env (eval (.Name x np) X.env)=eval (.Name x np) X.env:=by rfl)
  (hfew:((backTo cpos (starEach [a] X.env)).all (fun x=>!x.1)&&(backToKw cpos (keywordEach [] X.env)).all (fun x=>x.1.isSome)&&decide ([a].length+([]:List Keyword).length+(if ([]:List Keyword).isEmpty then 0 else 1)<30))=true:=by rfl)
  (hline:(apos.endLine==cpos.line)=true:=by rfl) (hs:noStar a=true:=by rfl) (hsw:j0 (.Call (.Attribute (.Name x np) "append" apos) [a] [] cpos)=true:=by rfl):
  XS X H0 Hs0 (.Expr (.Call (.Attribute (.Name x np) "append" apos) [a] [] cpos) pos) (lu i da):=⟨Be hN hv hd hcd ha.h hbase hfew hline (aB hs) rfl (ic hsw)⟩
theorem EJ (i:Nat) (hN:X.N[i]? = some x:=by rfl) (hv:Vis X.env.scope x:=by first|exact Or.inl rfl|exact Or.inr (Or.inl rfl)|exact Or.inr (Or.inr rfl)) (hd:(x==("__debug__":Str))=false:=by decide) (hcd:(x==("__classdict__":Str))=false:=by decide)
  (hbase:attributeBase (.Name x np) "pop" X.env (eval (.Name x np) X.env)=eval (.Name x np) X.env:=by rfl) (hline:(apos.endLine==cpos.line)=true:=by rfl)
  (hsw:j0 (.Call (.Attribute (.Name x np) "pop" apos) [] [] cpos)=true:=by rfl):XS X H0 Hs0 (.Expr (.Call (.Attribute (.Name x np) "pop" apos) [] [] cpos) pos) (t6 i):=⟨A8 hN hv hd hcd hbase hline (ic hsw)⟩
theorem xss (ha:XE X H0 Hs0 a da) (hu:X.A.units+20<cLine) (hm1:X.mg "sorted" = none) (hm2:X.mg "set" = none) (hc:X.calm=true:=by rfl) (hg1:Gl X "sorted":=by rfl) (hg2:Gl X "set":=by rfl) (h1:noStar a=true:=by rfl):
  XE X H0 Hs0 (.Call (.Name "sorted" p) [.Call (.Name "set" p2) [a] [] pos2] [] pos) (e1 eW da):=⟨ud hc hu ha.h hg1 hm1 hg2 hm2 (aB h1) (aB rfl)⟩
def uj:PV→Res PV
 |.lst xs=>if xs.length≤10000000 then .ok (.lst xs.reverse) else .stuck
 |_=>.stuck
theorem vb{xs:List V}{us:List Value}(r:Vals xs us):Vals xs.reverse us.reverse:=by
 induction r with
 |nil=>exact .nil
 |cons r t ih=>rw[List.reverse_cons,List.reverse_cons];exact L2.Vals.append ih (.cons r .nil)
theorem CF (hc:X.calm=true):mz X (.type "list") (.type "reversed") (fun xs H Q=>∃l vs,xs=[.ref l]∧SqL X.K H l vs∧∀D,H D=none→Q (.ref D) (upd H D (.lst vs.reverse))):=by
 intro pins s σ H xs us Q I r h
 obtain⟨l,vs,rfl,hl,q⟩:=h
 obtain⟨u,rfl,ru⟩:=vals1 r
 cases ru
 obtain⟨its,rv,pl,hz⟩:=I.list hl
 refine mK (items:=its.toArray) (I.ok.hd hc) pl.isList (by rw[List.size_toArray,←rv.length];exact hz) fun h1 h' tk c k1 k2 hlt hD=>?_
 have I1:Inv X pins σ H { s with heap:=h1,toks:=tk }:=I.kept k1
 have hD':h'.get? h1.objs.size=some { cls:=.type "list",data:=.seq its.reverse.toArray c }:=hD
 have k3:∀b o,s.heap.get? b=some o→h'.get? b=some o:=fun b o e=>k2 b o (Nat.ne_of_lt (Heap.lt_size e)) (k1 b o e)
 have I0:Inv X pins σ H { s with heap:=h',toks:=tk }:=I.kept k3
 refine⟨.ref h1.objs.size,upd H h1.objs.size (.lst vs.reverse),?_,rfl,q _ (I.hok.fresh (Nat.le_of_lt hlt))⟩
 exact I.laid (t':=tk) (o:=.lst vs.reverse) k3 (Nat.le_of_lt hlt) ⟨by rw[List.length_reverse];exact hz,its.reverse,c,vb rv,hD'⟩
theorem Dk (hc:X.calm=true) (ha:QE X H0 Hs0 a da) (hg1:Gl X "list") (hm1:X.mg "list" = none) (hg2:Gl X "reversed") (hm2:X.mg "reversed" = none)
  (he:starEach [a] X.env=[(false,eval a X.env)]) (he2:starEach [.Call (.Name "reversed" p2) [a] [] pos2] X.env=[(false,eval (.Call (.Name "reversed" p2) [a] [] pos2) X.env)]):
  QE X H0 Hs0 (.Call (.Name "list" p) [.Call (.Name "reversed" p2) [a] [] pos2] [] pos) (e1 uj da):=by
 refine PE.imp (og (.ty _) (.ty _) (CF hc) hg1 hm1 (by decide +kernel) hg2 hm2 (by decide +kernel) (cJ ha fD he) (by decide) (by decide) (by decide) (by decide) he rfl he2) fun τ H Q h=>?_
 refine RE.mono (one h) fun x H1 ⟨Hs,q,i,r,h1⟩=>?_
 unfold uj at h1
 split at h1
 ·split at h1
  ·obtain⟨ad,vs,rfl,hl,rs⟩:=r.lst_inv
   exact⟨ad,vs,rfl,SqL.of (i _ _ hl),fun D hD=>h1 _ _ _ (.new i hD) (.lst aC (Reps.mono (bM (i.free hD)) rs.reverse))⟩
  ·exact h1.elim
 ·exact h1.elim
theorem EI (ha:XE X H0 Hs0 a da) (hm1:X.mg "list" = none) (hm2:X.mg "reversed" = none) (hc:X.calm=true:=by rfl) (hg1:Gl X "list":=by rfl) (hg2:Gl X "reversed":=by rfl) (h1:noStar a=true:=by rfl):
  XE X H0 Hs0 (.Call (.Name "list" p) [.Call (.Name "reversed" p2) [a] [] pos2] [] pos) (e1 uj da):=⟨Dk hc ha.h hg1 hm1 hg2 hm2 (aB h1) (aB rfl)⟩
def fg:List PV→Option (List Int)
 |[]=>some []
 |.int i::r=>match fg r with
  |some is=>some (i::is)
  |none=>none
 |_=>none
theorem ff:∀{ps:List PV}{ns:List Int},fg ps=some ns→ps=ns.map PV.int
 |[],ns,h=>by cases h;rfl
 |p::ps,ns,h=>by
  unfold fg at h
  split at h
  ·rename_i e;cases e
  ·rename_i i r e
   cases e
   split at h
   ·rename_i is h2
    cases h
    rw[ff h2];rfl
   ·cases h
  ·cases h
theorem fe:∀(ns:List Int),fg (ns.map PV.int)=some ns
 |[]=>rfl
 |n::ns=>by
  show fg (PV.int n::ns.map PV.int)=_
  unfold fg
  rw[fe ns]
def fL(n:Int)(ns:List Int):Int:=ns.foldl (fun a b=>if b<a then b else a) n
def i8(n:Int)(ns:List Int):Int:=ns.foldl (fun a b=>if b>a then b else a) n
theorem kF:∀(ns:List Int)(n:Int),fL n ns≤n∧(∀x∈ns,fL n ns≤x)∧(fL n ns=n∨fL n ns∈ns)
 |[],n=>⟨Int.le_refl _,fun _ h=>by simp at h,.inl rfl⟩
 |m::ns,n=>by
  show fL (if m<n then m else n) ns≤n∧_
  obtain⟨h1,h2,h3⟩:=kF ns (if m<n then m else n)
  have e:fL n (m::ns)=fL (if m<n then m else n) ns:=rfl
  rw[e]
  obtain⟨z,hz,hz1,hz2,hz3⟩:∃z,(if m<n then m else n)=z∧z≤n∧z≤m∧(z=m∨z=n):=⟨_,rfl,by split<;>omega,by split<;>omega,by split<;>simp⟩
  rw[hz]at h1 h2 h3 ⊢
  refine⟨by omega,fun x hx=>?_,?_⟩
  ·rcases List.mem_cons.mp hx with rfl|hx
   ·omega
   ·exact h2 x hx
  ·rcases h3 with h3|h3
   ·rcases hz3 with g|g
    ·exact .inr (by rw[h3,g];exact .head _)
    ·exact .inl (by rw[h3,g])
   ·exact .inr (.tail _ h3)
theorem kG:∀(ns:List Int)(n:Int),n≤i8 n ns∧(∀x∈ns,x≤i8 n ns)∧(i8 n ns=n∨i8 n ns∈ns)
 |[],n=>⟨Int.le_refl _,fun _ h=>by simp at h,.inl rfl⟩
 |m::ns,n=>by
  show n≤i8 (if m>n then m else n) ns∧_
  obtain⟨h1,h2,h3⟩:=kG ns (if m>n then m else n)
  have e:i8 n (m::ns)=i8 (if m>n then m else n) ns:=rfl
  rw[e]
  obtain⟨z,hz,hz1,hz2,hz3⟩:∃z,(if m>n then m else n)=z∧n≤z∧m≤z∧(z=m∨z=n):=⟨_,rfl,by split<;>omega,by split<;>omega,by split<;>simp⟩
  rw[hz]at h1 h2 h3 ⊢
  refine⟨by omega,fun x hx=>?_,?_⟩
  ·rcases List.mem_cons.mp hx with rfl|hx
   ·omega
   ·exact h2 x hx
  ·rcases h3 with h3|h3
   ·rcases hz3 with g|g
    ·exact .inr (by rw[h3,g];exact .head _)
    ·exact .inl (by rw[h3,g])
   ·exact .inr (.tail _ h3)
def iU:List PV→Res PV
 |[.lst xs]=>match fg xs with
  |some (n::ns)=>.ok (.int (fL n ns))
  |_=>.stuck
 |_=>.stuck
def dY:List PV→Res PV
 |[.lst xs]=>match fg xs with
  |some (n::ns)=>.ok (.int (i8 n ns))
  |_=>.stuck
 |_=>.stuck
theorem lQ:∀{ns:List Int}{its:List Value},Vals (ns.map V.int) its→IntsAre its ns
 |[],_,.nil=>.nil
 |n::ns,_,.cons r t=>by
  obtain⟨tk,rfl⟩:=r
  exact .cons n tk (lQ t)
theorem Reps.ints_inv{K:PySem.W.Frag}{H:Hp}:∀{ns:List Int}{vs:List V},Reps K H vs (ns.map PV.int)→vs=ns.map V.int
 |[],_,.nil=>rfl
 |n::ns,_,.cons r t=>by
  cases r.int_inv
  rw[Reps.ints_inv t];rfl
theorem uQ (hc:X.calm=true):gv X (.builtin "min") (fun xs H Q=>∃l n ns,xs=[.ref l]∧SqL X.K H l ((n::ns).map V.int)∧Q (.int (fL n ns)) H):=by
 intro pins s σ H xs us Q I r h
 obtain⟨l,n,ns,rfl,hl,q⟩:=h
 obtain⟨u,rfl,ru⟩:=vals1 r
 cases ru
 obtain⟨its,rv,pl,hz⟩:=I.list hl
 have hi:=lQ rv
 obtain⟨zs,e⟩:=hi.allInts.items
 have hns:n::ns=zs.toList.map (·.1):=by rw[←hi.numsOf,←nums_intItems,←e]
 have hsz:0<zs.size:=by
  have z:(n::ns).length=zs.size:=by rw[hns,List.length_map,Array.length_toList]
  rw[←z];exact Nat.succ_pos _
 have il:s.heap.IsList l its.toArray:=pl.isList
 rw[e]at il
 refine min_intList (I.ok.hd hc) il hsz fun v h' tk hv hk=>?_
 obtain⟨t,rfl⟩:=intItems_at hv
 obtain⟨b1,b2⟩:=argBest_lt (numAt zs) (zs.size-1)
 have m1:numAt zs (argBest (fun i j=>decide (numAt zs i<numAt zs j)) (zs.size-1))∈n::ns:=by rw[hns,numAt_eq];exact getD_mem (by rw[List.length_map,Array.length_toList];omega)
 have m2:∀x∈n::ns,numAt zs (argBest (fun i j=>decide (numAt zs i<numAt zs j)) (zs.size-1))≤x:=fun x hx=>by
  rw[hns]at hx
  obtain⟨j,hj,rfl⟩:=mem_getD hx
  rw[List.length_map,Array.length_toList]at hj
  rw[←numAt_eq];exact b2 j (by omega)
 have em:numAt zs (argBest (fun i j=>decide (numAt zs i<numAt zs j)) (zs.size-1))=fL n ns:=by
  obtain⟨c1,c2,c3⟩:=kF ns n
  have d1:fL n ns∈n::ns:=c3.elim (fun z=>by rw[z];exact .head _) (.tail _)
  have d2:=m2 _ d1
  have d3:fL n ns≤numAt zs (argBest (fun i j=>decide (numAt zs i<numAt zs j)) (zs.size-1)):=by
   rcases List.mem_cons.mp m1 with z|z
   ·rw[z];exact c1
   ·exact c2 _ z
  omega
 exact⟨.int (fL n ns),H,I.kept hk,⟨t,by rw[←em]⟩,q⟩
theorem uS (hc:X.calm=true):gv X (.builtin "max") (fun xs H Q=>∃l n ns,xs=[.ref l]∧SqL X.K H l ((n::ns).map V.int)∧Q (.int (i8 n ns)) H):=by
 intro pins s σ H xs us Q I r h
 obtain⟨l,n,ns,rfl,hl,q⟩:=h
 obtain⟨u,rfl,ru⟩:=vals1 r
 cases ru
 obtain⟨its,rv,pl,hz⟩:=I.list hl
 have hi:=lQ rv
 obtain⟨zs,e⟩:=hi.allInts.items
 have hns:n::ns=zs.toList.map (·.1):=by rw[←hi.numsOf,←nums_intItems,←e]
 have hsz:0<zs.size:=by
  have z:(n::ns).length=zs.size:=by rw[hns,List.length_map,Array.length_toList]
  rw[←z];exact Nat.succ_pos _
 have il:s.heap.IsList l its.toArray:=pl.isList
 rw[e]at il
 refine max_intList (I.ok.hd hc) il hsz fun v h' tk hv hk=>?_
 obtain⟨t,rfl⟩:=intItems_at hv
 obtain⟨b1,b2⟩:=argBest_gt (numAt zs) (zs.size-1)
 have m1:numAt zs (argBest (fun i j=>decide (numAt zs i>numAt zs j)) (zs.size-1))∈n::ns:=by rw[hns,numAt_eq];exact getD_mem (by rw[List.length_map,Array.length_toList];omega)
 have m2:∀x∈n::ns,x≤numAt zs (argBest (fun i j=>decide (numAt zs i>numAt zs j)) (zs.size-1)):=fun x hx=>by
  rw[hns]at hx
  obtain⟨j,hj,rfl⟩:=mem_getD hx
  rw[List.length_map,Array.length_toList]at hj
  rw[←numAt_eq];exact b2 j (by omega)
 have em:numAt zs (argBest (fun i j=>decide (numAt zs i>numAt zs j)) (zs.size-1))=i8 n ns:=by
  obtain⟨c1,c2,c3⟩:=kG ns n
  have d1:i8 n ns∈n::ns:=c3.elim (fun z=>by rw[z];exact .head _) (.tail _)
  have d2:=m2 _ d1
  have d3:numAt zs (argBest (fun i j=>decide (numAt zs i>numAt zs j)) (zs.size-1))≤i8 n ns:=by
   rcases List.mem_cons.mp m1 with z|z
   ·rw[z];exact c1
   ·exact c2 _ z
  omega
 exact⟨.int (i8 n ns),H,I.kept hk,⟨t,by rw[←em]⟩,q⟩
theorem oY (hc:X.calm=true):gw X (.builtin "min") iU:=by
 intro EO pins s σ H xs us Q I r h
 obtain⟨Hs,ps,i,rp,h⟩:=h
 unfold iU at h
 split at h
 ·split at h
  ·rename_i n ns hi
   obtain⟨v,rfl,r1⟩:=rp.one_inv
   obtain⟨ad,vs,rfl,hl,rs⟩:=r1.lst_inv
   have:=ff hi
   subst this
   have:=rs.ints_inv
   subst this
   exact uQ hc pins s σ H _ us Q I r ⟨ad,n,ns,rfl,SqL.of (i _ _ hl),bA h i⟩
  ·exact h.elim
 ·exact h.elim
theorem jF (hc:X.calm=true):gw X (.builtin "max") dY:=by
 intro EO pins s σ H xs us Q I r h
 obtain⟨Hs,ps,i,rp,h⟩:=h
 unfold dY at h
 split at h
 ·split at h
  ·rename_i n ns hi
   obtain⟨v,rfl,r1⟩:=rp.one_inv
   obtain⟨ad,vs,rfl,hl,rs⟩:=r1.lst_inv
   have:=ff hi
   subst this
   have:=rs.ints_inv
   subst this
   exact uS hc pins s σ H _ us Q I r ⟨ad,n,ns,rfl,SqL.of (i _ _ hl),bA h i⟩
  ·exact h.elim
 ·exact h.elim
def qG:List PV→Res PV
 |[.lst xs]=>.ok (.lst xs)
 |[.tup xs]=>.ok (.lst xs)
 |_=>.stuck
theorem tm:gw X (.type "list") qG:=by
 intro EO pins s σ H xs us Q I r h
 obtain⟨Hs,ps,i,rp,h⟩:=h
 unfold qG at h
 split at h
 ·obtain⟨v,rfl,r1⟩:=rp.one_inv
  obtain⟨ad,vs,rfl,hl,rs⟩:=r1.lst_inv
  exact jH pins s σ H _ us Q I r ⟨ad,vs,rfl,.inl (SqL.of (i _ _ hl)),fun D hD=>h _ _ _ (.new i hD) (.lst aC (Reps.mono (bM (i.free hD)) rs))⟩
 ·obtain⟨v,rfl,r1⟩:=rp.one_inv
  obtain⟨ad,vs,rfl,hl,rs⟩:=r1.tup_inv
  exact jH pins s σ H _ us Q I r ⟨ad,vs,rfl,.inr (bL i hl),fun D hD=>h _ _ _ (.new i hD) (.lst aC (Reps.mono (bM (i.free hD)) rs))⟩
 ·exact h.elim
def ke:List PV→Res PV
 |[.int i]=>.ok (.int i)
 |[.bl k]=>.ok (.int (if k then 1 else 0))
 |_=>.stuck
theorem l7:gw X (.type "int") ke:=by
 intro EO pins s σ H xs us Q I r h
 obtain⟨Hs,ps,i,rp,h⟩:=h
 unfold ke at h
 split at h
 ·obtain⟨v,rfl,r1⟩:=rp.one_inv
  cases r1.int_inv
  exact nB pins s σ H _ us Q I r (.inl ⟨_,rfl,bA h i⟩)
 ·obtain⟨v,rfl,r1⟩:=rp.one_inv
  cases r1.bl_inv
  exact nB pins s σ H _ us Q I r (.inr ⟨_,rfl,bA h i⟩)
 ·exact h.elim
end
theorem lh:∀{is:List Nat}{ps:List PV}{σ σ':PSt},fC is ps σ=.ok σ'→(∀j,j∉is→σ'[j]? = σ[j]?)∧σ'.length=σ.length
 |[],[],σ,σ',h=>by cases h;exact⟨fun _ _=>rfl,rfl⟩
 |i::is,p::ps,σ,σ',h=>by
  obtain⟨h1,h2⟩:=lh (is:=is) (ps:=ps) h
  refine⟨fun j hj=>?_,by rw[h2,List.length_set]⟩
  rw[h1 j (fun z=>hj (.tail _ z)),List.getElem?_set_ne (fun z=>hj (by rw[z];exact .head _))]
theorem Cp{k:Nat}{is:List Nat}(h:(is.all fun i=>decide (i<k))=true:=by rfl):GK k (gU is):=⟨fun ix σ p σ1 e=>by
 have e':∃ps,fC is ps (inn k ix σ)=.ok σ1:=by
  unfold gU at e
  split at e
  ·exact⟨_,e⟩
  ·exact⟨_,e⟩
  ·cases e
 obtain⟨ps,e'⟩:=e'
 obtain⟨h1,h2⟩:=lh e'
 refine⟨fun j sv hj=>?_,h2⟩
 rw[h1 j (fun z=>sQ (of_decide_eq_true (List.all_eq_true.mp h j z)) hj)]
 exact hj⟩
end G
namespace G
open PySem PySem.Spec PyProof.Rows L2 HM
theorem zo{α:Type}{f:PV→Res PV}{u v:α→PV}{xs:List α}(h:∀x∈xs,f (u x)=.ok (v x)):mapR f (xs.map u)=.ok (xs.map v):=by
 induction xs with
 |nil=>rfl
 |cons x xs ih=>
  show(f (u x)).bind _=_
  rw[h x (.head _),Res.bind_ok,show mapR f (List.map u xs)=_ from ih fun y hy=>h y (.tail _ hy)]
  rfl
theorem oZ{α:Type}{d:DI}{g:DG}{de:DE}{k:Nat}{ix:List Nat}{σ:PSt}{u v:α→PV}{xs:List α}(h1:d σ=.ok (xs.map u))(h2:∀x∈xs,dW g de (inn k ix σ) (u x)=.ok (v x))(h3:xs.length≤10000000):rV d g de k ix σ=.ok (xs.map v):=by
 unfold rV
 rw[h1,Res.bind_ok,zo h2]
 show(if (xs.map v).length≤10000000 then _ else _)=_
 rw[if_pos (by rw[List.length_map];exact h3)]
theorem fR{α:Type}{d:DI}{g:DG}{de:DE}{k:Nat}{ix:List Nat}{σ:PSt}{u v:α→PV}{xs:List α}(h1:d σ=.ok (xs.map u))(h2:∀x∈xs,dW g de (inn k ix σ) (u x)=.ok (v x))(h3:xs.length≤10000000):c6 d g de k ix σ=.ok (.lst (xs.map v)):=by
 unfold c6;rw[oZ h1 h2 h3];rfl
theorem gG{α:Type}{i:Nat}{d:DI}{g:DG}{de:DE}{k:Nat}{ix:List Nat}{σ:PSt}{u v:α→PV}{xs:List α}(h1:d σ=.ok (xs.map u))(h2:∀x∈xs,dW g de (inn k ix σ) (u x)=.ok (v x))(h3:xs.length≤10000000):eT i d g de k ix σ=.ok (.next (σ.set i (some (.sh (.lst (xs.map v)))))):=by
 unfold eT;rw[oZ h1 h2 h3];rfl
theorem m5{α:Type}{i:Nat}{d:DI}{g:DG}{de:DE}{k:Nat}{ix:List Nat}{σ:PSt}{u v:α→PV}{xs:List α}(h1:d σ=.ok (xs.map u))(h2:∀x∈xs,dW g de (inn k ix σ) (u x)=.ok (v x))(h3:xs.length≤10000000):gH i d g de k ix σ=.ok (.next (σ.set i (some (.own (xs.map v))))):=by
 unfold gH;rw[oZ h1 h2 h3];rfl
theorem iQ{k:Nat}{de:DE}{σ:PSt}{p:PV}:dW (gN k) de σ p=noErr (de (σ.set k (some (.sh p)))):=rfl
theorem qQ{i j:Nat}{de:DE}{σ:PSt}{p q:PV}:dW (gU [i,j]) de σ (.tup [p,q])=noErr (de ((σ.set i (some (.sh p))).set j (some (.sh q)))):=rfl
theorem v9{xs:List PV}:pSl (.lst xs) none (some (-1))=.ok (.lst xs.dropLast):=by
 show Res.ok (PV.lst (l6 xs none (some (-1))))=_
 congr 2
 unfold l6
 have e1:HT.sIx xs.length 0 none=0:=rfl
 have e2:HT.sIx xs.length xs.length (some (-1))=xs.length-1:=by
  show(if (-1:Int)<0 then ((-1:Int)+(xs.length:Int)).toNat else min (-1:Int).toNat xs.length)=_
  rw[if_pos (by decide)];omega
 rw[e1,e2,List.drop_zero,Nat.sub_zero,List.dropLast_eq_take]
theorem xT{α:Type}(l:List α)(b:α):atI (l++[b]) (-1)=some b:=by
 unfold atI ixN
 rw[if_neg (by decide),if_pos (by rw[List.length_append];simp;omega)]
 show(l++[b])[((-1:Int)+((l++[b]).length:Int)).toNat]? = _
 have:((-1:Int)+((l++[b]).length:Int)).toNat=l.length:=by rw[List.length_append,List.length_singleton];omega
 rw[this];simp
theorem uT{α:Type}(l:List α)(a b:α):atI (l++[a,b]) (-2)=some a:=by
 unfold atI ixN
 rw[if_neg (by decide),if_pos (by rw[List.length_append];simp;omega)]
 show(l++[a,b])[((-2:Int)+((l++[a,b]).length:Int)).toNat]? = _
 have:((-2:Int)+((l++[a,b]).length:Int)).toNat=l.length:=by rw[List.length_append];simp;omega
 rw[this];simp
@[simp] theorem lr{i:Nat}{d:DE}{σ:PSt}{xs:List PV}{p:PV}(h:σ[i]? = some (some (.own xs)))(hl:xs.length<10000000)(hd:d σ=.ok p):lu i d σ=.ok (.next (σ.set i (some (.own (xs++[p]))))):=by
 unfold lu;rw[h];simp only[hl,if_true,hd];rfl
theorem AU{i:Nat}{σ:PSt}{xs:List PV}(h:σ[i]? = some (some (.own xs)))(hl:xs≠[]):t6 i σ=.ok (.next (σ.set i (some (.own xs.dropLast)))):=by
 unfold t6;rw[h];simp only[hl,if_false]
@[simp] theorem fK{i:Nat}{σ:PSt}{d:DS}{xs:List PV}(h:σ[i]? = some (some (.own xs))):cV i d σ=d (σ.set i (some (.sh (.lst xs)))):=by unfold cV;rw[h]
theorem nW{i:Nat}{σ:PSt}:lq i aj σ=.ok (.next (σ.set i (some (.own [])))):=rfl
theorem BH{xs:List PV}(h:xs.length≤10000000):uj (.lst xs)=.ok (.lst xs.reverse):=if_pos h
theorem rl{ps:List Pt}(h:ps.length≤63):eW (.lst (ps.map ptP))=.ok (.lst ((br ps).map ptP)):=by
 simp only[eW,nJ,h,if_true]
theorem oq{xs ys:List PV}(h:xs.length+ys.length≤10000000):aS (.lst xs) (.lst ys)=.ok (.lst (xs++ys)):=if_pos h
theorem o6{n:Int}{ns:List Int}:iU [.lst ((n::ns).map PV.int)]=.ok (.int (fL n ns)):=by
 simp only[iU,fe]
theorem o7{n:Int}{ns:List Int}:dY [.lst ((n::ns).map PV.int)]=.ok (.int (i8 n ns)):=by
 simp only[dY,fe]
@[simp] theorem Ez{xs:List PV}:qG [.lst xs]=.ok (.lst xs):=rfl
@[simp] theorem Gd{k:Bool}:ke [.bl k]=.ok (.int (if k then 1 else 0)):=rfl
@[simp] theorem Eo{p:Pt}:pIx (ptP p) (.int 0)=.ok (.int p.1):=rfl
@[simp] theorem En{p:Pt}:pIx (ptP p) (.int 1)=.ok (.int p.2):=rfl
theorem l9{cs:List Pt}{k:Int}(h1:-(cs.length:Int)≤k)(h2:k<cs.length):∃p,p∈cs∧atR (cs.map ptP) k id=.ok (ptP p):=by
 unfold atR atI ixN
 rw[List.length_map]
 by_cases h:0≤k
 ·rw[if_pos h,if_pos h2]
  have hk:k.toNat<cs.length:=by omega
  refine⟨cs[k.toNat],List.getElem_mem hk,?_⟩
  simp[List.getElem?_eq_getElem hk]
 ·rw[if_neg h,if_pos h1]
  have hk:(k+cs.length).toNat<cs.length:=by omega
  refine⟨cs[(k+cs.length).toNat],List.getElem_mem hk,?_⟩
  simp[List.getElem?_eq_getElem hk]
theorem sW{a:Int}{n:Nat}(h:0<n):0≤a.fmod n∧a.fmod n<n:=by
 rw[Int.fmod_eq_emod_of_nonneg _ (by omega)]
 exact⟨Int.emod_nonneg _ (by omega),Int.emod_lt_of_pos _ (by omega)⟩
theorem mX(L:List Pt):(br L).length≤L.length:=by
 induction L with
 |nil=>exact Nat.le_refl _
 |cons p L ih=>
  have ins:∀(M:List Pt),(jv p M).length≤M.length+1:=by
   intro M
   induction M with
   |nil=>exact Nat.le_refl _
   |cons m M ihm=>
    unfold jv
    split
    ·simp
    ·split
     ·simp
     ·simp only[List.length_cons];omega
  have:=ins (br L)
  show(jv p (br L)).length≤_
  simp only[List.length_cons];omega
end G
namespace GS
open PySem PySem.W PySem.Calls PyProof.Rows
abbrev ZAt(h:Heap)(z TI TO:Addr)(f0:Value)(f:Bool):Prop:=
 h.get? z=some { cls:=.type "zip",dict:=none,data:=.fields #[f0,.bool f,.bool false,.ref TI,.ref TO],slots:=#[] }
section
variable {prog:Program}{w:World}{A:Around}{E:Value→Shared→Prop}{s:Shared}
theorem qv{z TI TO T:Addr}{f:Bool}{oT:Obj}{Q:Bool→Shared→Prop}(hz:ZAt s.heap z TI TO (rawInt T) f)(hT:s.heap.get? T=some oT)
  (h:∀h₁,ZAt h₁ z TI TO (rawInt T) true→Heap.SameBut z s.heap h₁→Q false { s with heap:=h₁ }):wpAny (model prog w) A (Builtin.SmallTypes.ownedTupleIsFree (.ref z)) Q E s:=by
 unfold Builtin.SmallTypes.ownedTupleIsFree
 refine wpAny_bind (wpAny_field hz rfl (x:=rawInt T) rfl ?_)
 show wpAny _ _ (loadIfAlive ((T:Int).toNat) >>= _) _ _ _
 rw[Int.toNat_natCast]
 refine wpAny_bind (kdx_alive hT ?_)
 simp only[Option.isNone_some,Bool.false_eq_true,if_false]
 refine wpAny_bind (wpAny_field hz rfl (x:=.bool f) rfl ?_)
 cases f with
 |true=>
  rw[if_neg (show ¬((Value.bool true != Value.bool true)=true) from Bool.false_ne_true)]
  exact wpAny_pure (h s.heap hz (Heap.SameBut.refl _ _))
 |false=>
  rw[if_pos (show(Value.bool false != Value.bool true)=true from rfl)]
  exact wpAny_bind (wpAny_setField_rec hz (by simp) fun h₁ hz₁ hs₁=>wpAny_pure (h h₁ hz₁ hs₁))
theorem yh{z TI TO i1 i2 l1 l2 T:Addr}{f:Bool}{oT:Obj}{k1 k2:Nat}{xs ys:Array Value}{x y:Value}{Q:Value→Shared→Prop}(D:ZipApart z TI TO i1 i2 l1 l2)
  (hz:ZAt s.heap z TI TO (rawInt T) f) (hTI:IsPair s.heap TI (.ref i1) (.ref i2)) (hT:s.heap.get? T=some oT)
  (h1:s.heap.IsListIter i1 l1 k1) (h2:s.heap.IsListIter i2 l2 k2) (hl1:s.heap.IsList l1 xs) (hl2:s.heap.IsList l2 ys) (hx:xs[k1]? = some x) (hy:ys[k2]? = some y)
  (hQ:∀h',ZAt h' z TI TO (rawInt T) true→h'.IsListIter i1 l1 (k1+1)→h'.IsListIter i2 l2 (k2+1)→IsPair h' s.heap.objs.size x y→h'.objs.size=s.heap.objs.size+1 →
   (∀c o,c≠z→c≠i1→c≠i2→s.heap.get? c=some o→h'.get? c=some o)→Q (.ref s.heap.objs.size) { s with heap:=h' }):
  wpAny (model prog w) A (Builtin.«zip.__next__» ⟨[.ref z],[]⟩) (fun fin s'=>∃v,fin=.done (.ret v)∧Q v s') E s:=by
 show wpAny _ _ (field (.ref z) 2 >>= _) _ _ _
 refine wpAny_bind (wpAny_field hz rfl (x:=.bool false) rfl ?_)
 show wpAny _ _ (field (.ref z) 3 >>= _) _ _ _
 refine wpAny_bind (wpAny_field hz rfl (x:=.ref TI) rfl ?_)
 refine wpAny_bind (wpAny_seqItems hTI rfl ?_)
 show wpAny _ _ (Builtin.SmallTypes.ownedTupleIsFree (.ref z) >>= _) _ _ _
 refine wpAny_bind ?_
 refine qv hz hT fun h₁ hz₁ hs₁=>?_
 simp only[Bool.false_eq_true,if_false]
 refine wpAny_bind ?_
 simp only[List.forIn_toArray,List.forIn_cons,List.forIn_nil]
 refine wpAny_bind (wpAny_bind (wpAny_holding ?_))
 show wpAny _ _ (Builtin.SmallTypes.nextOf (.ref i1) >>= _) _ _ _
 refine wpAny_bind (wpAny_nextOf_list_item (h1.extBut hs₁.extBut D.i1z) (hl1.extBut hs₁.extBut D.l1z) hx fun h₂ h1₂ hs₂=>wpAny_pure ?_)
 refine wpAny_pure ?_
 refine wpAny_bind (wpAny_bind (wpAny_holding ?_))
 show wpAny _ _ (Builtin.SmallTypes.nextOf (.ref i2) >>= _) _ _ _
 refine wpAny_bind (wpAny_nextOf_list_item ((h2.extBut hs₁.extBut D.i2z).extBut hs₂.extBut D.i12.symm) ((hl2.extBut hs₁.extBut D.l2z).extBut hs₂.extBut D.l2i1) hy fun h₄ h2₄ hs₄=>wpAny_pure ?_)
 refine wpAny_pure (wpAny_pure ?_)
 show wpAny _ _ (newTuple [x,y] >>= _) _ _ _
 refine wpAny_bind (wpAny_newTuple ?_)
 have hsz:h₄.objs.size=s.heap.objs.size:=by rw[hs₄.1,hs₂.1,hs₁.1]
 have hz₄:ZAt h₄ z TI TO (rawInt T) true:=hs₄.extBut _ _ D.i2z.symm (hs₂.extBut _ _ D.i1z.symm hz₁)
 have hk₄:∀c o,c≠z→c≠i1→c≠i2→s.heap.get? c=some o→h₄.get? c=some o:=fun c o c1 c3 c4 e=>
  hs₄.extBut _ _ c4 (hs₂.extBut _ _ c3 (hs₁.extBut _ _ c1 e))
 have h1₄:h₄.IsListIter i1 l1 (k1+1):=h1₂.extBut hs₄.extBut D.i12
 refine wpAny_pure ⟨_,rfl,?_⟩
 show Q (.ref h₄.objs.size) _
 rw[hsz]
 refine hQ _ (Heap.get?_push_of_some _ hz₄) (h1₄.at fun o e=>Heap.get?_push_of_some _ e) (h2₄.at fun o e=>Heap.get?_push_of_some _ e) (by rw[←hsz];exact Heap.get?_push_size _ rfl) (by rw[Heap.size_push,hsz]) fun c o c1 c3 c4 e=>Heap.get?_push_of_some _ (hk₄ c o c1 c3 c4 e)
theorem Ax{z TI TO i1 i2 l1 l2 T:Addr}{f:Bool}{oT:Obj}{k1:Nat}{xs:Array Value}{Q:Fin→Shared→Prop}(hh:A.handled=none)(D:ZipApart z TI TO i1 i2 l1 l2)
  (hz:ZAt s.heap z TI TO (rawInt T) f) (hTI:IsPair s.heap TI (.ref i1) (.ref i2)) (hT:s.heap.get? T=some oT)
  (h1:s.heap.IsListIter i1 l1 k1) (hl1:s.heap.IsList l1 xs) (hx:xs[k1]? = none)
  (hE:∀h' e,(∀c o,c≠z→c≠i1→s.heap.get? c=some o→h'.get? c=some o)→(∃o,h'.get? e=some o∧o.cls=.type "StopIteration")→E (.ref e) { s with heap:=h' }):
  wpAny (model prog w) A (Builtin.«zip.__next__» ⟨[.ref z],[]⟩) Q E s:=by
 show wpAny _ _ (field (.ref z) 2 >>= _) _ _ _
 refine wpAny_bind (wpAny_field hz rfl (x:=.bool false) rfl ?_)
 show wpAny _ _ (field (.ref z) 3 >>= _) _ _ _
 refine wpAny_bind (wpAny_field hz rfl (x:=.ref TI) rfl ?_)
 refine wpAny_bind (wpAny_seqItems hTI rfl ?_)
 show wpAny _ _ (Builtin.SmallTypes.ownedTupleIsFree (.ref z) >>= _) _ _ _
 refine wpAny_bind ?_
 refine qv hz hT fun h₁ hz₁ hs₁=>?_
 simp only[Bool.false_eq_true,if_false]
 refine wpAny_bind ?_
 simp only[List.forIn_toArray,List.forIn_cons,List.forIn_nil]
 refine wpAny_bind (wpAny_bind (wpAny_holding ?_))
 show wpAny _ _ (Builtin.SmallTypes.nextOf (.ref i1) >>= _) _ _ _
 exact wpAny_bind (wpAny_nextOf_list_end hh (h1.extBut hs₁.extBut D.i1z) (hl1.extBut hs₁.extBut D.l1z) hx fun h₂ e hs₂ he=>hE h₂ e (fun c o c1 c3 x=>hs₂ _ _ c3 (hs₁.extBut _ _ c1 x)) he)
def ZSt(h:Heap)(z TI TO i1 i2 l1 l2 S:Addr)(xs ys:Array Value)(i:Nat):Prop:=
 ((i=0∧IsZip h z TI TO .none)∨∃(T:Addr)(f:Bool)(oT:Obj),ZAt h z TI TO (rawInt T) f∧h.get? T=some oT∧T≠z∧T≠i1∧T≠i2∧T≠S) ∧
 IsPair h TI (.ref i1) (.ref i2)∧(∃a b,IsPair h TO a b)∧h.IsListIter i1 l1 i∧h.IsListIter i2 l2 i∧h.IsList l1 xs∧h.IsList l2 ys
theorem ZSt.keep{h h':Heap}{z TI TO i1 i2 l1 l2 S:Addr}{xs ys:Array Value}{i:Nat}(st:ZSt h z TI TO i1 i2 l1 l2 S xs ys i)(hk:∀b o,b≠S→h.get? b=some o→h'.get? b=some o)
  (n:∀b∈[z,TI,TO,i1,i2,l1,l2],b≠S):ZSt h' z TI TO i1 i2 l1 l2 S xs ys i:=by
 obtain⟨hz,hTI,⟨a,b,hTO⟩,h1,h2,hl1,hl2⟩:=st
 refine⟨?_,hk _ _ (n TI (by simp)) hTI,⟨a,b,hk _ _ (n TO (by simp)) hTO⟩,h1.at fun o e=>hk i1 o (n i1 (by simp)) e,h2.at fun o e=>hk i2 o (n i2 (by simp)) e,
  hl1.at fun o e=>hk l1 o (n l1 (by simp)) e,hl2.at fun o e=>hk l2 o (n l2 (by simp)) e⟩
 rcases hz with ⟨e,hz⟩|⟨T,f,oT,hz,hT,a1,a2,a3,a4⟩
 ·exact .inl ⟨e,hk _ _ (n z (by simp)) hz⟩
 ·exact .inr ⟨T,f,oT,hk _ _ (n z (by simp)) hz,hk _ _ a4 hT,a1,a2,a3,a4⟩
theorem yf{z TI TO i1 i2 l1 l2 S:Addr}{xs ys:Array Value}{x y:Value}{i:Nat}{Q:Option Value→Shared→Prop}(D:ZipApart z TI TO i1 i2 l1 l2)(hS:S<s.heap.objs.size)
  (st:ZSt s.heap z TI TO i1 i2 l1 l2 S xs ys i) (hx:xs[i]? = some x) (hy:ys[i]? = some y)
  (hQ:∀h',ZSt h' z TI TO i1 i2 l1 l2 S xs ys (i+1)→IsPair h' s.heap.objs.size x y→h'.objs.size=s.heap.objs.size+1→(∀c o,c≠z→c≠TO→c≠i1→c≠i2→s.heap.get? c=some o→h'.get? c=some o)→Q (some (.ref s.heap.objs.size)) { s with heap:=h' }):
  wpAny (model prog w) A (pyNext (.ref z)) Q E s:=by
 obtain⟨hz,hTI,⟨a,b,hTO⟩,h1,h2,hl1,hl2⟩:=st
 have lt:∀{c o},s.heap.get? c=some o→s.heap.objs.size≠c:=fun e=>Nat.ne_of_gt (Heap.lt_size e)
 have n1:s.heap.objs.size≠i1:=by obtain⟨_,e,_⟩:=h1;exact lt e
 have n2:s.heap.objs.size≠i2:=by obtain⟨_,e,_⟩:=h2;exact lt e
 rcases hz with ⟨rfl,hz⟩|⟨T,f,oT,hz,hT,a1,a2,a3,a4⟩
 ·refine wpAny_pyNext_zip_item D hz hTI hTO h1 h2 hl1 hl2 hx hy fun h' a1 a2 a3 a4 a5 a6 hk=>?_
  exact hQ h' ⟨.inr ⟨_,false,_,a1,a5,lt hz,n1,n2,Nat.ne_of_gt hS⟩,hk _ _ D.TIz D.TITO D.TIi1 D.TIi2 hTI,⟨_,_,a2⟩,a3,a4,hl1.at fun o e=>hk _ o D.l1z D.l1TO D.l1i1 D.l1i2 e,hl2.at fun o e=>hk _ o D.l2z D.l2TO D.l2i1 D.l2i2 e⟩ a5 a6 hk
 ·have hTy:s.TypeIs (.ref z) "zip":=⟨_,hz,rfl⟩
  unfold pyNext
  exact wpAny_bind (wpAny_attempt (wpAny_callSpecial?_slot (name:=Str.ofString "__next__") hTy PySem.F.slot_zip_next
   (wpAny_call_entry PySem.F.slot_zip_next hTy PySem.F.entry_zip_next
    (yh D hz hTI hT h1 h2 hl1 hl2 hx hy fun h' b1 b3 b4 b5 b6 hk=>wpAny_pure (hQ h' ⟨.inr ⟨T,true,oT,b1,hk _ _ a1 a2 a3 hT,a1,a2,a3,a4⟩,hk _ _ D.TIz D.TIi1 D.TIi2 hTI,⟨_,_,hk _ _ D.TOz D.TOi1 D.TOi2 hTO⟩,b3,b4,hl1.at fun o e=>hk _ o D.l1z D.l1i1 D.l1i2 e,hl2.at fun o e=>hk _ o D.l2z D.l2i1 D.l2i2 e⟩ b5 b6 fun c o c1 _ c3 c4 e=>hk c o c1 c3 c4 e)) (PySem.F.args_zip_next_1 _))))
theorem yg{z TI TO i1 i2 l1 l2 S:Addr}{xs ys:Array Value}{i:Nat}{Q:Option Value→Shared→Prop}(hh:A.handled=none)(D:ZipApart z TI TO i1 i2 l1 l2)
  (st:ZSt s.heap z TI TO i1 i2 l1 l2 S xs ys i) (hx:xs[i]? = none)
  (hQ:∀h',(∀c o,c≠z→c≠TO→c≠i1→c≠i2→s.heap.get? c=some o→h'.get? c=some o)→Q none { s with heap:=h' }):
  wpAny (model prog w) A (pyNext (.ref z)) Q E s:=by
 obtain⟨hz,hTI,⟨a,b,hTO⟩,h1,h2,hl1,hl2⟩:=st
 rcases hz with ⟨rfl,hz⟩|⟨T,f,oT,hz,hT,a1,a2,a3,a4⟩
 ·exact wpAny_pyNext_zip_end hh D hz hTI hTO h1 h2 hl1 hl2 (.inl hx) hQ
 ·have hTy:s.TypeIs (.ref z) "zip":=⟨_,hz,rfl⟩
  unfold pyNext
  refine wpAny_bind (wpAny_attempt (wpAny_callSpecial?_slot (name:=Str.ofString "__next__") hTy PySem.F.slot_zip_next
   (wpAny_call_entry PySem.F.slot_zip_next hTy PySem.F.entry_zip_next (Ax hh D hz hTI hT h1 hl1 hx fun h' e hk he=>?_) (PySem.F.args_zip_next_1 _))))
  obtain⟨o,ho,hc⟩:=he
  refine wpAny_bind (wpAny_isInstance (T:="StopIteration") (b:=true) ⟨o,ho,hc⟩ isSubtype_stop ?_)
  exact wpAny_pure (hQ _ fun c o c1 _ c3 _ e=>hk c o c1 c3 e)
end
structure ZG (xs ys:Array Value) (lo:Addr) (h:Heap) (as:List Addr):Prop where
 rise:as.Pairwise (· < ·)
 above:∀a∈as,lo<a
 pairs:∀(j:Nat)(a:Addr),as[j]? = some a→∃x y,xs[j]? = some x∧ys[j]? = some y∧IsPair h a x y
section
variable {prog:Program}{w:World}{A:Around}{s:Shared}{R:Result→Shared→Prop}{xs ys:Array Value}
theorem Ay{z TI TO i1 i2 l1 l2 S:Addr}(hh:A.handled=none)(D:ZipApart z TI TO i1 i2 l1 l2)(hS0:∀b∈[z,TI,TO,i1,i2,l1,l2],b<S)(hxy:xs.size=ys.size)(hn:xs.size≤sizeLine)(res:Value){h₁:Heap}
  (hR:∀h' tk acc c as,(∀b o,b≠S→b∉[z,TO,i1,i2]→h₁.get? b=some o→h'.get? b=some o)→h'.get? S=some { cls:=.type "list",dict:=none,data:=.seq acc c,slots:=#[] }→as.length=xs.size→ZG xs ys S h' as →
   acc.toList=as.map Value.ref→R (.ok (.ret res)) { s with heap:=h',toks:=tk }):
  ∀(k i:Nat)(h:Heap)(tk c:Nat)(acc:Array Value)(as:List Addr),xs.size-i=k→i≤xs.size→ZSt h z TI TO i1 i2 l1 l2 S xs ys i→(∀b o,b≠S→b∉[z,TO,i1,i2]→h₁.get? b=some o→h.get? b=some o) →
   h.get? S=some { cls:=.type "list",dict:=none,data:=.seq acc c,slots:=#[] }→acc.toList=as.map Value.ref→as.length=i→ZG xs ys S h as →
   codeAny (model prog w) A (.builtin "list.extend.loop" ⟨[.ref S,.ref z,res],[]⟩) R { s with heap:=h,toks:=tk }:=by
 have nS:∀b∈[z,TI,TO,i1,i2,l1,l2],b≠S:=fun b hb=>Nat.ne_of_lt (hS0 b hb)
 have four:∀{c:Addr},c∉[z,TO,i1,i2]→c≠z∧c≠TO∧c≠i1∧c≠i2:=fun hc=>by simp at hc;exact hc
 have hS4:S∉[z,TO,i1,i2]:=by
  have a1:=nS z (by simp);have a2:=nS TO (by simp);have a3:=nS i1 (by simp);have a4:=nS i2 (by simp)
  simp;exact⟨a1.symm,a2.symm,a3.symm,a4.symm⟩
 have big:∀{c:Addr},S<c→c∉[z,TO,i1,i2]:=fun hc hm=>by
  simp at hm
  rcases hm with rfl|rfl|rfl|rfl
  ·exact Nat.lt_asymm hc (hS0 _ (by simp))
  ·exact Nat.lt_asymm hc (hS0 _ (by simp))
  ·exact Nat.lt_asymm hc (hS0 _ (by simp))
  ·exact Nat.lt_asymm hc (hS0 _ (by simp))
 intro k
 induction k with
 |zero=>
  intro i h tk c acc as hk hi hst hkeep hS hacc hal hG
  have hin:i=xs.size:=by omega
  refine codeAny_builtin PySem.F.entry_extend_loop ?_
  rw[Around.under_plainId PySem.F.plain_extend_loop _]
  show wpAny _ A.in1 (pyNext (.ref z) >>= _) _ _ _
  refine wpAny_bind (yg (s:={ s with heap:=h,toks:=tk }) (A:=A.in1) hh D hst (Array.getElem?_eq_none (by omega)) fun h' he=>?_)
  have he':∀b o,b∉[z,TO,i1,i2]→h.get? b=some o→h'.get? b=some o:=fun b o hb e=>let⟨x1,x2,x3,x4⟩:=four hb;he b o x1 x2 x3 x4 e
  refine wpAny_pure (hR h' tk acc c as (fun b o h1 h2 e=>he' b o h2 (hkeep b o h1 h2 e)) (he' S _ hS4 hS) (by omega) ⟨hG.rise,hG.above,fun j a hj=>?_⟩ hacc)
  obtain⟨x,y,e1,e2,e3⟩:=hG.pairs j a hj
  exact⟨x,y,e1,e2,he' a _ (big (hG.above a (List.mem_of_getElem? hj))) e3⟩
 |succ k ih=>
  intro i h tk c acc as hk hi hst hkeep hS hacc hal hG
  have hlt:i<xs.size:=by omega
  have hlty:i<ys.size:=by omega
  have hsz:acc.size=i:=by rw[←Array.length_toList,hacc,List.length_map,hal]
  refine codeAny_builtin PySem.F.entry_extend_loop ?_
  rw[Around.under_plainId PySem.F.plain_extend_loop _]
  show wpAny _ A.in1 (pyNext (.ref z) >>= _) _ _ _
  refine wpAny_bind (yf (s:={ s with heap:=h,toks:=tk }) (S:=S) D (Heap.lt_size hS) hst (Array.getElem?_eq_getElem hlt) (Array.getElem?_eq_getElem hlty) fun h' hst' ht hz hkp=>?_)
  dsimp only at ht hz hkp ⊢
  have hkp':∀b o,b∉[z,TO,i1,i2]→h.get? b=some o→h'.get? b=some o:=fun b o hb e=>let⟨x1,x2,x3,x4⟩:=four hb;hkp b o x1 x2 x3 x4 e
  have hS':=hkp' S _ hS4 hS
  have up:∀b o,b≠S→h'.get? b=some o→(h'.update S (Obj.mapSeq (·.push (Value.ref h.objs.size)))).get? b=some o:=fun b o hb e=>(Heap.get?_update_other _ _ (Ne.symm hb)).trans e
  have hSl:S<h.objs.size:=Heap.lt_size hS
  show wpAny _ A.in1 (updateSeq S (·.push (Value.ref h.objs.size)) >>= _) _ _ _
  refine wpAny_bind ?_
  refine wpAny_updateSeq hS' rfl (wpAny_pure ⟨plainId_quiet PySem.F.plain_extend_loop _,ih (i+1) _ tk _ (acc.push (Value.ref h.objs.size)) (as++[h.objs.size]) (by omega) hlt (hst'.keep up nS)
   (fun b o h1 h2 e=>up b o h1 (hkp' b o h2 (hkeep b o h1 h2 e))) (Heap.get?_update_self _ hS' rfl) (by rw[Array.toList_push,hacc,List.map_append];rfl) (by rw[List.length_append,hal];rfl) ⟨?_,?_,?_⟩⟩) (by rw[hsz];omega) (by show(acc.push (Value.ref h.objs.size)).size≤sizeLine+1;rw[Array.size_push,hsz];omega)
  ·refine List.pairwise_append.mpr ⟨hG.rise,List.pairwise_singleton _ _,fun a ha b hb=>?_⟩
   rw[List.mem_singleton.mp hb]
   obtain⟨j,hj⟩:=List.mem_iff_getElem?.mp ha
   obtain⟨_,_,_,_,e⟩:=hG.pairs j a hj
   exact Heap.lt_size e
  ·intro a ha
   rcases List.mem_append.mp ha with ha|ha
   ·exact hG.above a ha
   ·rw[List.mem_singleton.mp ha];exact hSl
  ·intro j b hj
   rcases Nat.lt_trichotomy j as.length with q|q|q
   ·rw[List.getElem?_append_left q]at hj
    obtain⟨x,y,e1,e2,e3⟩:=hG.pairs j b hj
    have hb:=hG.above b (List.mem_of_getElem? hj)
    exact⟨x,y,e1,e2,up b _ (Nat.ne_of_gt hb) (hkp' b _ (big hb) e3)⟩
   ·subst q
    rw[List.getElem?_append_right (Nat.le_refl _),Nat.sub_self]at hj
    have hb:h.objs.size=b:=by simpa using hj
    subst hb
    rw[hal]
    exact⟨xs[i],ys[i],Array.getElem?_eq_getElem hlt,Array.getElem?_eq_getElem hlty,up _ _ (Nat.ne_of_gt hSl) ht⟩
   ·rw[List.getElem?_eq_none (by rw[List.length_append];simp;omega)]at hj
    cases hj
namespace FZ
theorem no_len:typeLookup (.type "zip") "__len__" = pure none:=by rw[typeLookup_type,builtinLookup_eq_fast];kernel_rfl
theorem no_hint:typeLookup (.type "zip") "__length_hint__" = pure none:=by rw[typeLookup_type,builtinLookup_eq_fast];kernel_rfl
end FZ
theorem Az {E:Value→Shared→Prop} {r:Addr} {Q:Bool→Shared→Prop} (hT:s.TypeIs (.ref r) "zip") (h:Q true s):wpAny (model prog w) A (Builtin.List.listLengthHint (.ref r)) Q E s:=by
 unfold Builtin.List.listLengthHint
 refine wpAny_bind (wpAny_specialOf hT FZ.no_len ?_)
 change wpAny _ _ (specialOf (Value.ref r) (Str.ofString "__length_hint__") >>= _) _ _ _
 exact wpAny_bind (wpAny_specialOf hT FZ.no_hint (wpAny_pure h))
theorem wD{E:Value→Shared→Prop}{Q:Value→Shared→Prop}{l1 l2:Addr}(hh:A.handled=none)(hl1:s.heap.IsList l1 xs)(hl2:s.heap.IsList l2 ys)(hxy:xs.size=ys.size)(hn:xs.size≤sizeLine)
  (h:∀(h':Heap) (tk c:Nat) (as:List Addr) (S:Addr),s.heap.objs.size≤S→(∀b o,s.heap.get? b=some o→h'.get? b=some o)→h'.get? S=some { cls:=.type "list",dict:=none,data:=.seq (as.map Value.ref).toArray c,slots:=#[] }→as.length=xs.size→ZG xs ys S h' as→Q (.ref S) { s with heap:=h',toks:=tk }):
  wpAny (model prog w) A (call (.type "zip") [.ref l1,.ref l2]) (fun u s1=>wpAny (model prog w) A (call (.type "list") [u]) Q E s1) E s:=by
 have a1:l1<s.heap.objs.size:=by obtain⟨_,e,_⟩:=hl1;exact Heap.lt_size e
 have a2:l2<s.heap.objs.size:=by obtain⟨_,e,_⟩:=hl2;exact Heap.lt_size e
 refine call_zip_2 hl1 hl2 fun h0 hz hTI hTO hi1 hi2 hsz hk=>?_
 have D:=zipApart_new a1 a2
 refine callType_codes (Q₁:=fun obj s₁=>obj=.ref h0.objs.size∧s₁ = { s with heap:=h0.push { cls:=.type "list",data:=.seq #[] } }) PySem.F.called_list (PySem.F.typeCall_list_1 _) PySem.F.entry_list_init (code_list_new _ ⟨rfl,rfl⟩) fun obj s₁ h₁=>?_
 obtain⟨rfl,rfl⟩:=h₁
 have gS:(h0.push { cls:=.type "list",data:=.seq #[] }).get? h0.objs.size=some { cls:=.type "list",data:=.seq #[] }:=Heap.get?_push_size _ rfl
 refine⟨⟨_,gS,rfl⟩,PySem.F.args_list_init_2 _ _,?_⟩
 change wpAny _ _ (do let old ←Builtin.List.listItems (.ref h0.objs.size);Builtin.List.listUpdate (.ref h0.objs.size) (fun _=>#[]);letGo old.toList.reverse;Builtin.List.listExtendWith (.ref h0.objs.size) (.ref (s.heap.objs.size+4)) .none) _ _ _
 refine wpAny_bind ?_
 unfold Builtin.List.listItems
 refine wpAny_bind (wpAny_seqItems gS rfl (wpAny_pure ?_))
 change wpAny _ _ (updateSeq h0.objs.size (fun _=>#[]) >>= fun _=>letGo (#[]:Array Value).toList.reverse >>= fun _=>Builtin.List.listExtendWith (.ref h0.objs.size) (.ref (s.heap.objs.size+4)) .none) _ _ _
 refine wpAny_bind (wpAny_updateSeq gS rfl (wpAny_bind (wpAny_letGo ?_)))
 have g2:=Heap.get?_update_self (Obj.mapSeq (fun _=>(#[]:Array Value))) gS rfl
 have oth:∀b o,b≠h0.objs.size→(h0.push { cls:=.type "list",data:=.seq #[] }).get? b=some o→((h0.push { cls:=.type "list",data:=.seq #[] }).update h0.objs.size (Obj.mapSeq (fun _=>(#[]:Array Value)))).get? b=some o:=fun b o hb e=>(Heap.get?_update_other _ _ (Ne.symm hb)).trans e
 generalize hh2:(h0.push { cls:=.type "list",data:=.seq #[] }).update h0.objs.size (Obj.mapSeq (fun _=>(#[]:Array Value)))=h2 at g2 oth
 have up:∀b o,h0.get? b=some o→h2.get? b=some o:=fun b o e=>oth b o (Nat.ne_of_lt (Heap.lt_size e)) (Heap.get?_push_of_some _ e)
 have hS0:∀b∈[s.heap.objs.size+4,s.heap.objs.size+2,s.heap.objs.size+3,s.heap.objs.size,s.heap.objs.size+1,l1,l2],b<h0.objs.size:=by
  intro b hb
  rw[hsz]
  simp at hb
  rcases hb with rfl|rfl|rfl|rfl|rfl|rfl|rfl
  ·omega
  ·omega
  ·omega
  ·omega
  ·omega
  ·exact Nat.lt_of_lt_of_le a1 (Nat.le_add_right _ _)
  ·exact Nat.lt_of_lt_of_le a2 (Nat.le_add_right _ _)
 have key:∀(h3:Heap) (c:Nat) (R:Result→Shared→Prop),(∀v s',(∃z:v=Value.none,Q (.ref h0.objs.size) s')→R (.ok (.ret v)) s')→(∀b o,h0.get? b=some o→h3.get? b=some o)→h3.get? h0.objs.size=some { cls:=.type "list",dict:=none,data:=.seq #[] c,slots:=#[] } →
   codeAny (model prog w) A.in1 (.builtin "list.extend.loop" ⟨[.ref h0.objs.size,.ref (s.heap.objs.size+4),.none],[]⟩) R { s with heap:=h3 }:=fun h3 c R hR hk3 hS3=>by
  refine Ay (s:=s) (A:=A.in1) (h₁:=h3) hh D hS0 hxy hn .none (fun h' tk' acc c' as hkk hS' hal hG hacc=>?_) _ 0 h3 s.toks c #[] [] rfl (Nat.zero_le _) ⟨.inl ⟨rfl,hk3 _ _ hz⟩,hk3 _ _ hTI,⟨_,_,hk3 _ _ hTO⟩,hi1.at fun o e=>hk3 _ o e,hi2.at fun o e=>hk3 _ o e,hl1.at fun o e=>hk3 _ o (hk _ o e),hl2.at fun o e=>hk3 _ o (hk _ o e)⟩ (fun _ _ _ _ e=>e) hS3 rfl rfl ⟨.nil,fun _ hm=>by simp at hm,fun j a hj=>by simp at hj⟩
  refine hR _ _ ⟨rfl,?_⟩
  have ea:acc=(as.map Value.ref).toArray:=by apply Array.toList_inj.mp;rw[hacc]
  rw[ea]at hS'
  refine h h' tk' c' as h0.objs.size (by rw[hsz];omega) (fun b o e=>?_) hS' hal hG
  have hb:=Heap.lt_size e
  have far:∀k:Nat,b≠s.heap.objs.size+k:=fun k=>Nat.ne_of_lt (Nat.lt_of_lt_of_le hb (Nat.le_add_right _ _))
  refine hkk b o (by rw[hsz];exact far 5) (fun hm=>?_) (hk3 b o (hk b o e))
  rcases List.mem_cons.mp hm with z|hm
  ·exact far 4 z
  rcases List.mem_cons.mp hm with z|hm
  ·exact far 3 z
  rcases List.mem_cons.mp hm with z|hm
  ·exact far 0 z
  exact far 1 (List.mem_singleton.mp hm)
 have hT:Shared.TypeIs { s with heap:=h2 } (.ref (s.heap.objs.size+4)) "zip":=⟨_,up _ _ hz,rfl⟩
 have hne:h0.objs.size≠s.heap.objs.size+4:=by omega
 unfold Builtin.List.listExtendWith
 refine wpAny_bind (wpAny_typeOf (T:="zip") hT ?_)
 have z1:Builtin.List.listSameRef (.ref h0.objs.size) (.ref (s.heap.objs.size+4))=false:=by simp[Builtin.List.listSameRef,hne]
 have z2:(Value.type "zip" == Value.type "list")=false:=by decide
 have z3:(Value.type "zip" == Value.type "tuple")=false:=by decide
 simp only[z1,z2,z3,Bool.or_false,Bool.false_eq_true,if_false]
 refine wpAny_bind (wpAny_pyIter_zip (up _ _ hz) (wpAny_bind (wpAny_holding (Az hT ?_))))
 refine wpAny_ite_split (fun _=>?_) (fun z=>absurd rfl z)
 refine wpAny_bind (wpAny_rule (wpAny_bind ?_))
 change wpAny _ _ (updateSeq h0.objs.size (·.push .none) >>= fun _=>updateSeq h0.objs.size (·.pop)) _ _ _
 refine wpAny_bind (wpAny_updateSeq g2 rfl ?_)
 have hS2:=Heap.get?_update_self (Obj.mapSeq (·.push Value.none)) g2 rfl
 refine wpAny_updateSeq (hz:=by seq_fits) hS2 rfl ?_
 have hS3:=Heap.get?_update_self (Obj.mapSeq (·.pop)) hS2 rfl
 have oth3:∀b o,b≠h0.objs.size→h2.get? b=some o→((h2.update h0.objs.size (Obj.mapSeq (·.push Value.none))).update h0.objs.size (Obj.mapSeq (·.pop))).get? b=some o:=fun b o hb e=>
  (Heap.get?_update_other _ _ (Ne.symm hb)).trans ((Heap.get?_update_other _ _ (Ne.symm hb)).trans e)
 exact wpAny_pure ⟨plainId_quiet PySem.F.plain_extend_loop _,key _ _ _ (fun v s' q=>⟨q.1,q.2⟩) (fun b o e=>oth3 b o (Nat.ne_of_lt (Heap.lt_size e)) (up b o e)) hS3⟩
end
end GS
namespace G
open PySem PySem.Spec PyProof.Rows L2 GS HM
def iX(H:Hp):List (Addr×HO)→Hp
 |[]=>H
 |p::L=>upd (iX H L) p.1 p.2
theorem jk{H:Hp}{b:Addr}:∀{L:List (Addr×HO)},b∉L.map (·.1)→iX H L b=H b
 |[],_=>rfl
 |p::L,h=>by
  have h1:b≠p.1:=fun z=>h (by rw[z];exact .head _)
  show upd (iX H L) p.1 p.2 b=H b
  rw[aR h1]
  exact jk fun z=>h (.tail _ z)
theorem nL{H:Hp}{p:Addr×HO}:∀{L:List (Addr×HO)},(L.map (·.1)).Nodup→p∈L→iX H L p.1=some p.2
 |[],_,h=>by simp at h
 |q::L,hn,h=>by
  obtain⟨h1,h2⟩:=List.nodup_cons.mp hn
  show upd (iX H L) q.1 q.2 p.1=_
  rcases List.mem_cons.mp h with rfl|h
  ·exact aC
  ·rw[aR (fun z=>h1 (by show q.1∈_;rw[←z];exact List.mem_map_of_mem h))]
   exact nL h2 h
theorem sf{H:Hp}{b:Addr}{o:HO}:∀{L:List (Addr×HO)},iX H L b=some o→(H b=some o∧b∉L.map (·.1))∨(b,o)∈L
 |[],h=>.inl ⟨h,by simp⟩
 |p::L,h=>by
  by_cases e:b=p.1
  ·subst e
   have h':upd (iX H L) p.1 p.2 p.1=some o:=h
   rw[aC]at h';cases h'
   exact .inr (.head _)
  ·have h':upd (iX H L) p.1 p.2 b=some o:=h
   rw[aR e]at h'
   rcases sf h' with ⟨h1,h2⟩|h1
   ·exact .inl ⟨h1,fun z=>by rcases List.mem_cons.mp z with z|z;exact e z;exact h2 z⟩
   ·exact .inr (.tail _ h1)
theorem mZ{H:Hp}{L:List (Addr×HO)}(hf:∀p∈L,H p.1=none):bc H (iX H L):=fun b o q=>by
 rw[jk fun z=>?_]
 ·exact q
 ·obtain⟨p,hp,rfl⟩:=List.mem_map.mp z
  rw[hf p hp]at q;cases q
theorem nu{Hs H:Hp}(i:bc Hs H):∀{L:List (Addr×HO)},(L.map (·.1)).Nodup→(∀p∈L,H p.1=none)→Grow Hs H (iX Hs L) (iX H L)
 |[],_,_=>Grow.refl i
 |p::L,hn,hf=>by
  obtain⟨h1,h2⟩:=List.nodup_cons.mp hn
  have g:=nu i h2 fun q hq=>hf q (.tail _ hq)
  exact g.trans (Grow.new g.i (by rw[jk h1];exact hf p (.head _)))
section
variable {X:Cx}{pins:List (Addr×Obj)}{σ:L2.St}{H:Hp}{s:Shared}{h':Heap}
theorem uE{t':Nat}{L:List (Addr×HO)}(I:Inv X pins σ H s)(k:∀b u,s.heap.get? b=some u→h'.get? b=some u)(hp:∀p∈L,s.heap.objs.size≤p.1)
  (new:∀p∈L,dy X.prog X.w (iX H L) h' p.1 p.2):Inv X pins σ (iX H L) { s with heap:=h',toks:=t' }:=by
 have hf:∀p∈L,H p.1=none:=fun p hm=>I.hok.fresh (hp p hm)
 have sm:=mZ hf
 refine I.un ⟨fun b u q _ _ _=>k b u q,fun b u q _ _ _=>⟨u.slots,k b u q⟩,fun b u q n _=>?_,fun b u q _=>⟨u,k b u q⟩,fun b xs q=>sm _ _ q,fun b u xs q=>sm _ _ q,fun b ps q=>⟨#[],by rw[sm _ _ q];simp⟩⟩ fun b o e=>?_
 ·rw[jk fun z=>?_]
  ·exact n
  ·obtain⟨p,hm,rfl⟩:=List.mem_map.mp z
   exact absurd (Nat.lt_of_lt_of_le (Heap.lt_size q) (hp p hm)) (Nat.lt_irrefl _)
 ·rcases sf e with ⟨e1,_⟩|e1
  ·exact(I.hok b o e1).stay (fun c v _ q=>k c v q) (fun c q=>sm _ _ q) fun c xs q=>sm _ _ q
  ·exact new _ e1
end
def mC(as:List Addr)(vs ws:List V):List (Addr×HO):=List.zipWith (fun a p=>(a,HO.tup [p.1,p.2])) as (vs.zip ws)
def pC(S:Addr)(as:List Addr)(vs ws:List V):List (Addr×HO):=(S,.lst (as.map V.ref))::mC as vs ws
theorem pB:∀{as:List Addr}{vs ws:List V},vs.length=ws.length→as.length=vs.length→(mC as vs ws).map (·.1)=as
 |[],_,_,_,_=>rfl
 |a::as,v::vs,w::ws,h,h2=>by
  show a::(mC as vs ws).map (·.1)=_
  rw[pB (by simpa using h) (by simpa using h2)]
 |_::_,[],_,_,h=>by simp at h
 |_::_,_::_,[],h,_=>by simp at h
theorem pA:∀{as:List Addr}{vs ws:List V}{p:Addr×HO},p∈mC as vs ws→∃(j:Nat)(v w:V),as[j]? = some p.1∧vs[j]? = some v∧ws[j]? = some w∧p.2=.tup [v,w]
 |[],_,_,_,h=>by simp[mC]at h
 |_::_,[],_,_,h=>by simp[mC]at h
 |_::_,_::_,[],_,h=>by simp[mC]at h
 |a::as,v::vs,w::ws,p,h=>by
  rcases List.mem_cons.mp (show p∈(a,HO.tup [v,w])::mC as vs ws from h) with rfl|h
  ·exact⟨0,v,w,rfl,rfl,rfl,rfl⟩
  ·obtain⟨j,v',w',h1,h2,h3,h4⟩:=pA h
   exact⟨j+1,v',w',by simpa using h1,by simpa using h2,by simpa using h3,h4⟩
theorem pz:∀{as:List Addr}{vs ws:List V}{j:Nat}{a:Addr}{v w:V},as[j]? = some a→vs[j]? = some v→ws[j]? = some w→(a,HO.tup [v,w])∈mC as vs ws
 |[],_,_,_,_,_,_,h,_,_=>by simp at h
 |_::_,[],_,_,_,_,_,_,h,_=>by simp at h
 |_::_,_::_,[],_,_,_,_,_,_,h=>by simp at h
 |a::as,v::vs,w::ws,0,_,_,_,h1,h2,h3=>by simp at h1 h2 h3;subst h1;subst h2;subst h3;exact List.mem_cons_self
 |a::as,v::vs,w::ws,j+1,_,_,_,h1,h2,h3=>List.mem_cons_of_mem _ (pz (j:=j) (by simpa using h1) (by simpa using h2) (by simpa using h3))
theorem kZ:∀(as:List Addr),Vals (as.map V.ref) (as.map Value.ref)
 |[]=>.nil
 |a::as=>.cons rfl (kZ as)
section
variable {X:Cx}
theorem CD (hc:X.calm=true):mz X (.type "list") (.type "zip") (fun xs H Q=>∃l1 l2 vs ws,xs=[.ref l1,.ref l2]∧SqL X.K H l1 vs∧SqL X.K H l2 ws∧vs.length=ws.length ∧
  ∀(as:List Addr)(S:Addr),as.length=vs.length→((pC S as vs ws).map (·.1)).Nodup→(∀p∈pC S as vs ws,H p.1=none)→Q (.ref S) (iX H (pC S as vs ws))):=by
 intro pins s σ H xs us Q I r h
 obtain⟨l1,l2,vs,ws,rfl,h1,h2,hlen,q⟩:=h
 obtain⟨u1,u2,rfl,r1,r2⟩:=vals2 r
 cases r1;cases r2
 obtain⟨i1,rv1,p1,z1⟩:=I.list h1
 obtain⟨i2,rv2,p2,z2⟩:=I.list h2
 refine wD (xs:=i1.toArray) (ys:=i2.toArray) (I.ok.hd hc) p1.isList p2.isList (by simp[←rv1.length,←rv2.length,hlen]) (by rw[List.size_toArray,←rv1.length];exact z1) fun h' tk c as S hS k hD hal hG=>?_
 have lal:as.length=vs.length:=by rw[hal,List.size_toArray,←rv1.length]
 have fst:(pC S as vs ws).map (·.1)=S::as:=by show S::(mC as vs ws).map (·.1)=_;rw[pB hlen lal]
 have nd:((pC S as vs ws).map (·.1)).Nodup:=by
  rw[fst]
  refine List.nodup_cons.mpr ⟨fun z=>Nat.lt_irrefl _ (hG.above S z),?_⟩
  exact hG.rise.imp fun h=>Nat.ne_of_lt h
 have hge:∀p∈pC S as vs ws,s.heap.objs.size≤p.1:=fun p hp=>by
  have hp':p.1∈S::as:=by rw[←fst];exact List.mem_map_of_mem hp
  rcases List.mem_cons.mp hp' with e|e
  ·rw[e];exact hS
  ·exact Nat.le_of_lt (Nat.lt_of_le_of_lt hS (hG.above _ e))
 refine⟨.ref S,iX H (pC S as vs ws),?_,rfl,q as S lal nd fun p hp=>I.hok.fresh (hge p hp)⟩
 refine uE I k hge fun p hp=>?_
 rcases List.mem_cons.mp hp with rfl|hp
 ·exact⟨by rw[List.length_map,lal];exact z1,as.map Value.ref,c,kZ as,hD⟩
 ·obtain⟨j,v,w,e1,e2,e3,e4⟩:=pA hp
  rw[e4]
  obtain⟨x,y,g1,g2,g3⟩:=hG.pairs j p.1 e1
  obtain⟨v',f1,f2⟩:=ez rv1 (show i1[j]? = some x by simpa using g1)
  obtain⟨w',f3,f4⟩:=ez rv2 (show i2[j]? = some y by simpa using g2)
  rw[e2]at f1;cases f1
  rw[e3]at f3;cases f3
  exact⟨by rw[sizeLine_eq];simp,[x,y],.cons f2 (.cons f4 .nil),_,g3,rfl,_,rfl⟩
end
section
variable {X:Cx}{H0 Hs0:Hp}{a b:Expr}{da db:DE}{p p2 pos pos2:Pos}
def ui:PV→PV→Res PV
 |.lst xs,.lst ys=>if xs.length=ys.length then .ok (.lst (List.zipWith (fun x y=>.tup [x,y]) xs ys)) else .stuck
 |_,_=>.stuck
theorem zip_get{xs ys:List PV}{j:Nat}{r:PV}(h:(List.zipWith (fun x y=>PV.tup [x,y]) xs ys)[j]? = some r):∃x y,xs[j]? = some x∧ys[j]? = some y∧r=.tup [x,y]:=by
 rw[List.getElem?_zipWith]at h
 cases h1:xs[j]? with
 |none=>rw[h1]at h;simp at h
 |some x=>
  cases h2:ys[j]? with
  |none=>rw[h1,h2]at h;simp at h
  |some y=>rw[h1,h2]at h;exact⟨x,y,rfl,rfl,(Option.some.inj h).symm⟩
theorem Di (hc:X.calm=true) (ha:QE X H0 Hs0 a da) (hb:QE X H0 Hs0 b db) (hg1:Gl X "list") (hm1:X.mg "list" = none) (hg2:Gl X "zip") (hm2:X.mg "zip" = none)
  (he1:starEach [b] X.env=[(false,eval b X.env)]) (he:starEach [a,b] X.env=(false,eval a X.env)::starEach [b] X.env) (he2:starEach [.Call (.Name "zip" p2) [a,b] [] pos2] X.env=[(false,eval (.Call (.Name "zip" p2) [a,b] [] pos2) X.env)]):
  QE X H0 Hs0 (.Call (.Name "list" p) [.Call (.Name "zip" p2) [a,b] [] pos2] [] pos) (e2 ui da db):=by
 refine PE.imp (og (.ty _) (.ty _) (CD hc) hg1 hm1 (by decide +kernel) hg2 hm2 (by decide +kernel) (cJ ha (cJ hb fD he1) he) (by decide) (by decide) (by decide) (by decide) he (by rw[he1];rfl) he2) fun τ H Q h=>?_
 refine RE.mono (two h) fun x H1 h1=>RE.mono h1 fun y H2 ⟨Hs,pa,pb,i,r1,r2,h2⟩=>?_
 unfold ui at h2
 split at h2
 ·rename_i xs ys
  split at h2
  ·rename_i hxy
   obtain⟨l1,vs,rfl,e1,rs1⟩:=r1.lst_inv
   obtain⟨l2,ws,rfl,e2,rs2⟩:=r2.lst_inv
   have lvw:vs.length=ws.length:=by rw[rs1.length,rs2.length];exact hxy
   refine⟨l1,l2,vs,ws,rfl,SqL.of (i _ _ e1),SqL.of (i _ _ e2),lvw,fun as S hal nd hf=>?_⟩
   have hfs:∀q∈pC S as vs ws,Hs q.1=none:=fun q hq=>i.free (hf q hq)
   refine h2 _ _ _ (nu i nd hf) (.lst (nL nd (List.mem_cons_self)) ?_)
   refine gK (by rw[List.length_map,List.length_zipWith,hal,rs1.length,hxy,Nat.min_self]) fun j v q hv hq=>?_
   obtain⟨px,py,g1,g2,rfl⟩:=zip_get hq
   obtain⟨v1,f1,q1⟩:=rs1.get g1
   obtain⟨w1,f2,q2⟩:=rs2.get g2
   rw[List.getElem?_map]at hv
   cases ha':as[j]? with
   |none=>rw[ha']at hv;cases hv
   |some ad=>
    rw[ha']at hv
    have ev:V.ref ad=v:=Option.some.inj hv
    subst ev
    have m:=mZ hfs
    have ht:=nL (H:=Hs) nd (List.mem_cons_of_mem _ (pz ha' f1 f2))
    exact .tup (.inl (.inl ht)) (.cons (q1.mono m) (.cons (q2.mono m) .nil))
  ·exact h2.elim
 ·exact h2.elim
theorem EH (ha:XE X H0 Hs0 a da) (hb:XE X H0 Hs0 b db) (hm1:X.mg "list" = none) (hm2:X.mg "zip" = none) (hc:X.calm=true:=by rfl) (hg1:Gl X "list":=by rfl) (hg2:Gl X "zip":=by rfl) (h1:noStar a=true:=by rfl) (h2:noStar b=true:=by rfl):
  XE X H0 Hs0 (.Call (.Name "list" p) [.Call (.Name "zip" p2) [a,b] [] pos2] [] pos) (e2 ui da db):=⟨Di hc ha.h hb.h hg1 hm1 hg2 hm2 (aB h2) (aB h1) (aB rfl)⟩
end
end G
namespace HM
theorem sq_pos{d1 d2:Int}(h:d1≠0∨d2≠0):0<d1*d1+d2*d2:=by
 have a1:0≤d1*d1:=by rcases Int.le_total 0 d1 with z|z;exact Int.mul_nonneg z z;exact Int.mul_nonneg_of_nonpos_of_nonpos z z
 have a2:0≤d2*d2:=by rcases Int.le_total 0 d2 with z|z;exact Int.mul_nonneg z z;exact Int.mul_nonneg_of_nonpos_of_nonpos z z
 rcases h with h|h
 ·have:d1*d1≠0:=fun z=>by rcases Int.mul_eq_zero.mp z with z|z<;>exact h z
  omega
 ·have:d2*d2≠0:=fun z=>by rcases Int.mul_eq_zero.mp z with z|z<;>exact h z
  omega
end HM
namespace G
open PySem PySem.Spec PyProof.Rows L2 HM
theorem v8{x:PV}{xs:List PV}:pSl (.lst (x::xs)) (some 1) none=.ok (.lst xs):=by
 show Res.ok (PV.lst (l6 (x::xs) (some 1) none))=_
 congr 2
 unfold l6
 have e1:HT.sIx (x::xs).length 0 (some 1)=1:=by
  show(if (1:Int)<0 then ((1:Int)+((x::xs).length:Int)).toNat else min (1:Int).toNat (x::xs).length)=_
  rw[if_neg (by decide),List.length_cons];simp
 have e2:HT.sIx (x::xs).length (x::xs).length none=(x::xs).length:=rfl
 rw[e1,e2];simp
theorem wa{x:PV}{xs:List PV}:pSl (.lst (x::xs)) none (some 1)=.ok (.lst [x]):=by
 show Res.ok (PV.lst (l6 (x::xs) none (some 1)))=_
 congr 2
theorem gm{xs:List PV}{k:Nat}{p:PV}(h:xs[k]? = some p):atR xs (k:Int) id=.ok p:=by
 have hk:k<xs.length:=(List.getElem?_eq_some_iff.mp h).1
 unfold atR atI ixN
 rw[if_pos (by omega),if_pos (by omega)]
 simp[h]
theorem BG{xs ys:List PV}(h:xs.length=ys.length):ui (.lst xs) (.lst ys)=.ok (.lst (List.zipWith (fun x y=>.tup [x,y]) xs ys)):=if_pos h
theorem cH{n:Nat}(h:n≤100000):aD [.int (n:Int)]=.ok (cD 0 1 n):=by
 simp only[aD]
 rw[if_pos ⟨by omega,by omega⟩,Int.toNat_natCast]
theorem tT(M:List PV→Res PV){i:Nat}{da db:DE}{σ:PSt}{p q r:PV}(h1:da σ=.ok p)(h2:db σ=.ok q)(h:M [p,q]=.ok r):av i (eA (fun ps=>noErr (M ps)) (aa da (aa db aj))) σ=.ok (.next (σ.set i (some (.sh r)))):=by
 simp only[i5,oX,dr,fh,h1,h2,ar,h,fX]
theorem sL{f:List PV→Res (List PV)}{d:DE}{σ:PSt}{p:PV}{rs:List PV}(hd:d σ=.ok p)(hf:f [p]=.ok rs):itR f (aa d aj) σ=.ok rs:=by
 simp only[wQ,dr,fh,hd,ar,hf]
theorem gF{f:List PV→Res (List PV)}{d:DE}{gg:DG}{c:DS}{σ:PSt}{p:PV}{rs:List PV}(hd:d σ=.ok p)(hf:f [p]=.ok rs):dZ (itR f (aa d aj)) gg c σ=cO gg c rs σ:=by
 simp only[gE,wQ,dr,fh,hd,ar,hf]
def rot(cs:List Pt):List Pt:=cs.drop 1++cs.take 1
def ai(cs:List Pt):List (Pt×Pt):=cs.zip (rot cs)
def sdP(s:Pt×Pt):PV:=.tup [ptP s.1,ptP s.2]
theorem yx(cs:List Pt):(rot cs).length=cs.length:=by
 cases cs with
 |nil=>rfl
 |cons c cs=>simp[rot]
theorem sr{cs:List Pt}{k:Nat}(h:k<cs.length):(rot cs)[k]? = cs[(k+1) % cs.length]?:=by
 cases cs with
 |nil=>simp at h
 |cons c cs=>
  show(cs++[c])[k]? = _
  by_cases hk:k<cs.length
  ·rw[List.getElem?_append_left hk,Nat.mod_eq_of_lt (by simp;exact hk)];simp
  ·have e:k=cs.length:=by simp only[List.length_cons]at h;omega
   subst e
   simp
theorem eD(cs:List Pt):(ai cs).length=cs.length:=by unfold ai;rw[List.length_zip,yx,Nat.min_self]
theorem eG{cs:List Pt}{k:Nat}{a b:Pt}(ha:cs[k]? = some a)(hb:cs[(k+1) % cs.length]? = some b):(ai cs)[k]? = some (a,b):=by
 have hk:k<cs.length:=(List.getElem?_eq_some_iff.mp ha).1
 unfold ai
 rw[List.getElem?_zip_eq_some]
 exact⟨ha,by rw[sr hk];exact hb⟩
theorem fJ{cs:List Pt}{s:Pt×Pt}(h:s∈ai cs):∃k:Nat,cs[k]? = some s.1∧cs[(k+1) % cs.length]? = some s.2:=by
 obtain⟨k,hk⟩:=List.mem_iff_getElem?.mp h
 unfold ai at hk
 rw[List.getElem?_zip_eq_some]at hk
 have hl:k<cs.length:=(List.getElem?_eq_some_iff.mp hk.1).1
 exact⟨k,hk.1,by rw[←sr hl];exact hk.2⟩
theorem uX:∀(as bs:List Pt),List.zipWith (fun x y=>PV.tup [x,y]) (as.map ptP) (bs.map ptP)=(as.zip bs).map sdP
 |[],_=>by simp
 |_::_,[]=>by simp
 |a::as,b::bs=>by
  show PV.tup [ptP a,ptP b]::List.zipWith _ (as.map ptP) (bs.map ptP)=_
  rw[uX as bs];rfl
theorem i6(n:Nat):cD 0 1 n=(List.range n).map fun (k:Nat)=>PV.int (k:Int):=by
 unfold cD
 apply List.map_congr_left
 intro k _
 simp
theorem jK{cs l:List Pt}(P:HM.Poly cs l){s:Pt×Pt}(h:s∈ai cs):s.1≠s.2:=fun e=>by
 obtain⟨k,ha,hb⟩:=fJ h
 have n3:=P.three
 have hk:k<cs.length:=(List.getElem?_eq_some_iff.mp ha).1
 have h2:(k+2) % cs.length<cs.length:=Nat.mod_lt _ (by omega)
 have hc:cs[(k+2) % cs.length]? = some cs[(k+2) % cs.length]:=List.getElem?_eq_getElem h2
 have:=P.turn k s.1 s.2 _ (by rw[Nat.mod_eq_of_lt hk];exact ha) hb hc
 rw[e]at this
 unfold cr at this
 simp at this
end G
namespace G
open PySem PySem.Spec PyProof.Rows L2 GS HM
section
variable {X:Cx}
def yD:V→List V→Hp→VK→Prop:=fun x vs H Q=>∃(l:Addr)(xs:List V)(i:Int)(y:V),x=.ref l∧vs=[.int i,y]∧H l=some (.lst xs)∧xs.length<sizeLine∧0≤i∧i<2 ^ 63∧Q .non (upd H l (.lst (xs.take i.toNat++y::xs.drop i.toNat)))
theorem mU:∀{xs:List V}{us:List Value}(n:Nat),Vals xs us→Vals (xs.take n) (us.take n)
 |_,_,0,_=>.nil
 |_,_,_+1,.nil=>.nil
 |_,_,n+1,.cons r t=>.cons r (mU n t)
theorem mW:∀{xs:List V}{us:List Value}(n:Nat),Vals xs us→Vals (xs.drop n) (us.drop n)
 |_,_,0,r=>r
 |_,_,_+1,.nil=>.nil
 |_,_,n+1,.cons _ t=>mW n t
theorem zK(its:List Value)(u:Value)(i:Int)(h:0≤i):
  (fun xs:Array Value=>have k:=if i<0 then (i+(xs.size:Int)).toNat else min i.toNat xs.size;(xs.extract 0 k).push u++xs.extract k) its.toArray=(its.take i.toNat++u::its.drop i.toNat).toArray:=by
 have hn:¬i<0:=by omega
 simp only[hn,if_false,List.size_toArray]
 apply Array.toList_inj.mp
 rcases Nat.le_total i.toNat its.length with q|q
 ·rw[Nat.min_eq_left q]
  simp
  exact List.take_of_length_le (by rw[List.length_drop];exact Nat.le_refl _)
 ·rw[Nat.min_eq_right q,List.take_of_length_le q,List.drop_eq_nil_of_le q];simp
theorem uq:MtM X "list.insert" yD:=by
 intro pins s σ H x vs v us Q I rx rv h
 obtain⟨l,xs,i,y,rfl,rfl,hH,hz,h0,h1,q⟩:=h
 cases rx
 obtain⟨u1,u2,rfl,r1,r2⟩:=vals2 rv
 obtain⟨t,rfl⟩:=r1
 obtain⟨z,its,n,r,hl,e⟩:=I.lstM hH
 have hf:Builtin.List.listFitsIndex i=true:=fitsIndex_both (by omega) h1
 refine call_meets PySem.F.slot_list_insert ⟨_,e,rfl⟩ PySem.F.entry_list_insert (PySem.F.args_list_insert_3 _ _ _) (PySem.AutoSeq1.list_insert_list_int_val_1 l its.toArray n i t u2 (by simp[hf]) (by rw[List.size_toArray];omega)) ⟨e,?_⟩
 refine⟨.non,_,I.lset (its':=its.take i.toNat++u2::its.drop i.toNat) hH e (zK its u2 i h0) ((mU _ r).append (.cons r2 (mW _ r))) ?_,rfl,q⟩
 rw[List.length_append,List.length_cons,List.length_take,List.length_drop]
 omega
end
def pP(i:Nat)(d1 d2:DE):DS:=fun σ=>match σ[i]? with
 |some (some (.own xs))=>if xs.length<10000000 then (d1 σ).bind fun p=>(d2 σ).bind fun q=>match p with
   |.int k=>if 0≤k∧k<1000000000000 then .ok (.next (σ.set i (some (.own (xs.take k.toNat++q::xs.drop k.toNat))))) else .stuck
   |_=>.stuck
  else .stuck
 |_=>.stuck
section
variable {X:Cx}{H0 Hs0:Hp}{a b:Expr}{da db:DE}{pos np apos cpos p p2 pos2:Pos}{x:Str}
theorem Ba {i:Nat} (hN:X.N[i]? = some x) (hv:Vis X.env.scope x) (hd:(x==("__debug__":Str))=false) (hcd:(x==("__classdict__":Str))=false) (ha:QE X H0 Hs0 a da) (hb:QE X H0 Hs0 b db)
  (hbase:attributeBase (.Name x np) "insert" X.env (eval (.Name x np) X.env)=eval (.Name x np) X.env)
  (hfew:((backTo cpos (starEach [a,b] X.env)).all (fun x=>!x.1)&&(backToKw cpos (keywordEach [] X.env)).all (fun x=>x.1.isSome)
   && decide ([a,b].length+([]:List Keyword).length+(if ([]:List Keyword).isEmpty then 0 else 1)<30))=true)
  (hline:(apos.endLine==cpos.line)=true) (hs1:starEach [b] X.env=[(false,eval b X.env)]) (hs:starEach [a,b] X.env=(false,eval a X.env)::starEach [b] X.env) (hplain:(backTo cpos (starEach [b] X.env)).any (·.1)=false)
  (hsw:swapsWith (.Call (.Attribute (.Name x np) "insert" apos) [a,b] [] cpos) none pos.line X.env=pure false):
  QS X H0 Hs0 (.Expr (.Call (.Attribute (.Name x np) "insert" apos) [a,b] [] cpos) pos) (pP i da db):=by
 intro pins s τ H D I ⟨Hs,σ,S,h⟩
 refine n9 (vZ PySem.F.plainAttrs_list PySem.F.slot_list_insert PySem.F.type_list_insert uq (i7 hN hv hd hcd) (cJ ha (cJ hb fD hs1) hs) hbase hfew hline hs hplain) hsw pins s τ H D I ?_
 unfold pP at h
 split at h
 ·rename_i xs e
  split at h
  ·rename_i hl
   obtain⟨v,e1,ad,vs,rfl,h1,h2,h3,h4⟩:=S.slot i _ e
   refine⟨_,e1,.inl ⟨rfl,vs,SqL.of h1⟩,Hs,σ,S,Ret.mono (gy.bind1 h) fun y H1 ⟨Hs1,p,g1,r1,hh⟩=>?_⟩
   have S1:=S.grow g1
   refine⟨Hs1,σ,S1,Ret.mono (gy.bind1 hh) fun y2 H2 ⟨Hs2,q,g2,r2,hh2⟩=>?_⟩
   have S2:=S1.grow g2
   obtain⟨v',e1',ad',vs',e2',h1',h2',h3',h4'⟩:=S2.slot i _ e
   rw[e1]at e1'
   cases e1'
   cases e2'
   cases p with
   |int k=>
    simp only at hh2
    split at hh2
    ·rename_i hk
     have ey:=r1.int_inv
     subst ey
     exact⟨ad,vs',k,y2,rfl,rfl,h1',by rw[h4'.length,sizeLine_eq];omega,hk.1,by omega,hh2 Hs2 _ τ (bc.refl _) (S2.write i e e1 h2' h3' ((h4'.take _).append (.cons r2 (h4'.drop _))))⟩
    ·exact hh2.elim
   |_=>exact hh2.elim
  ·exact h.elim
 ·exact h.elim
theorem EL (i:Nat) (ha:XE X H0 Hs0 a da) (hb:XE X H0 Hs0 b db) (hN:X.N[i]? = some x:=by rfl) (hv:Vis X.env.scope x:=by first|exact Or.inl rfl|exact Or.inr (Or.inl rfl)|exact Or.inr (Or.inr rfl)) (hd:(x==("__debug__":Str))=false:=by decide) (hcd:(x==("__classdict__":Str))=false:=by decide)
  (hbase:attributeBase (.Name x np) "insert" X.env (eval (.Name x np) X.env)=eval (.Name x np) X.env:=by rfl)
  (hfew:((backTo cpos (starEach [a,b] X.env)).all (fun x=>!x.1)&&(backToKw cpos (keywordEach [] X.env)).all (fun x=>x.1.isSome)&&decide ([a,b].length+([]:List Keyword).length+(if ([]:List Keyword).isEmpty then 0 else 1)<30))=true:=by rfl)
  (hline:(apos.endLine==cpos.line)=true:=by rfl) (hs:noStar a=true:=by rfl) (hs2:noStar b=true:=by rfl) (hsw:j0 (.Call (.Attribute (.Name x np) "insert" apos) [a,b] [] cpos)=true:=by rfl):
  XS X H0 Hs0 (.Expr (.Call (.Attribute (.Name x np) "insert" apos) [a,b] [] cpos) pos) (pP i da db):=⟨Ba hN hv hd hcd ha.h hb.h hbase hfew hline (aB hs2) (aB hs) (by rw[aB hs2];rfl) (ic hsw)⟩
end
end G
namespace HM
section
variable {cs cs' l:List Pt}(P:Poly cs l)(P':Poly cs' l)
include P
theorem Poly.get(k:Nat):∃a,cs[k % cs.length]? = some a:=⟨_,List.getElem?_eq_getElem (Nat.mod_lt _ (by have:=P.three;omega))⟩
include P'
end
end HM
namespace HM
section
variable {cs l l':List Pt}
end
end HM
namespace G
open PySem PySem.Spec PyProof.Rows L2 GS HM
section
variable {X:Cx}{pins:List (Addr×Obj)}{τ:L2.St}{H:Hp}{s:Shared}
end
section
variable {X:Cx}
end
def eCh(g g':PV→PV→Res PV)(a b c:DE):DE:=fun σ=>(a σ).bind fun p=>(b σ).bind fun q=>(g p q).bind fun r=>(asB r).bind fun k=>if k=true then (c σ).bind fun t=>g' q t else .ok (.bl false)
section
variable {X:Cx}{H0 Hs0:Hp}{a b c:Expr}{da db dc:DE}{pos:Pos}
theorem CC{g g':PV→PV→Res PV}{τ:L2.St}{H:Hp}{Q:VK}(h:RE X H0 Hs0 (eCh g g' da db dc) τ H Q):
  RE X H0 Hs0 da τ H fun x H1=>RE X H0 Hs0 db τ H1 fun y H2=>∃Hs p q,bc Hs H2∧Rep X.K Hs x p∧Rep X.K Hs y q∧Ret X.K Hs H2 (g p q) (bI X H0 Hs0) fun z H3=>∃k,z=.bl k ∧
   (if k=true then RE X H0 Hs0 dc τ H3 fun w H4=>∃Hs p q,bc Hs H4∧Rep X.K Hs y p∧Rep X.K Hs w q∧Ret X.K Hs H4 (g' p q) (bI X H0 Hs0) Q else Q (.bl false) H3):=by
 obtain⟨Hs,σ,S,h⟩:=h
 refine⟨Hs,σ,S,Ret.mono (Ret.bind h) fun x H1 ⟨Hs1,p,g1,r1,h1⟩=>?_⟩
 refine⟨Hs1,σ,S.grow g1,Ret.mono (Ret.bind h1) fun y H2 ⟨Hs2,q,g2,r2,h2⟩=>?_⟩
 refine⟨Hs2,p,q,g2.i,r1.mono g2.s,r2,Ret.mono (Ret.bind h2) fun z H3 ⟨Hs3,rz,g3,r3,h3⟩=>?_⟩
 cases rz with
 |bl k=>
  refine⟨k,r3.bl_inv,?_⟩
  cases k with
  |true=>
   rw[if_pos rfl]
   have h4:Ret X.K Hs3 H3 ((dc σ).bind fun t=>g' q t) (bI X H0 Hs0) Q:=h3
   exact⟨Hs3,σ,((S.grow g1).grow g2).grow g3,Ret.mono (Ret.bind h4) fun w H4 ⟨Hs4,t,g4,r4,h5⟩=>⟨Hs4,q,t,g4.i,(r2.mono g3.s).mono g4.s,r4,h5⟩⟩
  |false=>
   rw[if_neg (by decide)]
   have h4:Ret X.K Hs3 H3 (.ok (.bl false)) (bI X H0 Hs0) Q:=h3
   exact h4 _ Hs3 H3 (.refl g3.i) (.bl false)
 |_=>exact h3.elim
theorem yP{op op':CmpOp}{g g':PV→PV→Res PV}(ho:OpP X (compareOp op) g)(ho':OpP X (compareOp op') g')(ha:QE X H0 Hs0 a da)(hb:QE X H0 Hs0 b db)(hc:QE X H0 Hs0 c dc)(hm:lastMarks [op,op'] [b,c]=false):
  QE X H0 Hs0 (.Compare a [op,op'] [b,c] pos) (eCh g g' da db dc):=PE.imp (vY (ho (bI X H0 Hs0)) (ho' (bI X H0 Hs0)) ha hb hc hm) fun τ H Q h=>CC h
theorem BW{op op':CmpOp}(h:gq c=true):lastMarks [op,op'] [b,c]=false:=lI (op:=op') h
theorem u6{op op':CmpOp}{g g':PV→PV→Res PV}(ho:OpP X (compareOp op) g)(ho':OpP X (compareOp op') g')(ha:XE X H0 Hs0 a da)(hb:XE X H0 Hs0 b db)(hc:XE X H0 Hs0 c dc)(hm:gq c=true:=by rfl):
  XE X H0 Hs0 (.Compare a [op,op'] [b,c] pos) (eCh g g' da db dc):=⟨yP ho ho' ha.h hb.h hc.h (BW hm)⟩
end
section
variable {X:Cx}{H0 Hs0:Hp}{pos np apos cpos:Pos}{x:Str}
end
end G
namespace G
open PySem PySem.Spec PyProof.Rows L2 GS HM
section
variable {prog:Program}{w:World}{A:Around}{R:Result→Shared→Prop}{s:Shared}{I l S:Addr}{items:Array Value}{ps:List Pt}{h₀:Heap}
end
section
variable {X:Cx}
end
end G
namespace G
open PySem PySem.Spec PyProof.Rows L2 GS HM
def dS(f:PV→Res (Option PV)):List PV→Res (List PV)
 |[]=>.ok []
 |p::ps=>match f p,dS f ps with
  |.ok o,.ok qs=>.ok (o.toList++qs)
  |_,_=>.stuck
def df(g:DG)(tc:DT)(de:DE)(σ0:PSt)(p:PV):Res (Option PV):=match g p σ0 with
 |.ok σ1=>match tc σ1 with
  |.ok true=>match noErr (de σ1) with
   |.ok q=>.ok (some q)
   |_=>.stuck
  |.ok false=>.ok none
  |_=>.stuck
 |_=>.stuck
theorem j6{f:PV→Res (Option PV)}{p:PV}{ps qs:List PV}(h:dS f (p::ps)=.ok qs):∃o rs,f p=.ok o∧dS f ps=.ok rs∧qs=o.toList++rs:=by
 unfold dS at h
 split at h
 ·rename_i o rs h1 h2
  cases h
  exact⟨o,rs,h1,h2,rfl⟩
 ·cases h
theorem lY{f:PV→Res (Option PV)}:∀{ps qs:List PV},dS f ps=.ok qs→qs.length≤ps.length
 |[],qs,h=>by cases h;exact Nat.le_refl _
 |p::ps,qs,h=>by
  obtain⟨o,rs,h1,h2,rfl⟩:=j6 h
  have:=lY h2
  rw[List.length_append,List.length_cons]
  cases o with
  |none=>simp;omega
  |some q=>simp;omega
theorem sZ{f:PV→Res (Option PV)}:∀{ps qs:List PV},dS f ps=.ok qs→∀(i:Nat)(p:PV),ps[i]? = some p→∃o,f p=.ok o
 |[],qs,h,i,p,e=>by simp at e
 |p0::ps,qs,h,i,p,e=>by
  obtain⟨o,rs,h1,h2,rfl⟩:=j6 h
  cases i with
  |zero=>simp at e;subst e;exact⟨o,h1⟩
  |succ i=>exact sZ h2 i p (by simpa using e)
theorem ny{f:PV→Res (Option PV)}{p:PV}{o:Option PV}(hf:f p=.ok o):∀{ps qs:List PV},dS f ps=.ok qs→dS f (ps++[p])=.ok (qs++o.toList)
 |[],qs,h=>by
  cases h
  show dS f [p]=_
  unfold dS
  rw[hf]
  show Res.ok (o.toList++[])=_
  simp
 |p0::ps,qs,h=>by
  obtain⟨o',rs,h1,h2,rfl⟩:=j6 h
  have ih:=ny hf h2
  show dS f (p0::(ps++[p]))=_
  unfold dS
  rw[h1,ih]
  simp
section
variable {X:Cx}{pins:List (Addr×Obj)}{H0 Hs0:Hp}{σ:PSt}{τ:L2.St}{tg elt iter cd:Expr}{scope:Scope}{pos:Pos}{cl:List (Str×Addr)}{N:List Str}{k:Nat}{ix:List Nat}{g:DG}{de:DE}{tc:DT}
theorem uN{Hs2 H2:Hp}{s2:Shared}{it:Addr}{fp:List Addr}{tn:Nat→Heap→Prop}{J:It}{ps qs:List PV}{h4:Heap}{t4:Nat}{RR:Result→Shared→Prop}
  (I2:Inv X pins τ H2 s2) (S2:SR X.K H0 Hs0 Hs2 H2 σ τ) (O:CompOk X scope cl N k ix) (hcalm:X.calm=true) (T:Turn X.prog X.w X.K tg J fp it tn) (st:tn 0 s2.heap) (fpok:∀b∈fp,gx X pins H2 b) (jok:JOk X.K J Hs2 ps)
  (hg:∀(C:Addr)(s:Shared)(H A B:Hp),QG (cxC X pins scope cl C N fp s H) A B tg g)
  (he:∀(C:Addr)(s:Shared)(H A B:Hp),QE (cxC X pins scope cl C N fp s H) A B elt de)
  (ht:∀(C:Addr)(s:Shared)(H A B:Hp),QT (cxC X pins scope cl C N fp s H) A B cd tc)
  (gk:∀p σ1,g p (inn k ix σ)=.ok σ1→(∀(j:Nat)(sv:SV),(inn k ix σ)[j]? = some (some sv)→σ1[j]? = some (some sv))∧σ1.length=(inn k ix σ).length)
  (hm:dS (df g tc de (inn k ix σ)) ps=.ok qs) (hl:ps.length≤10000000)
  (hns:h4.Ns (s2.heap.objs.size+1) (fun _=>none)) (hsb:∀b o,(s2.heap.push { cls:=.type "list",data:=.seq ([]:List Value).toArray }).get? b=some o→h4.get? b=some o)
  (hR:∀(s':Shared)(Hs' H':Hp)(vs:List V)(m:Str→Option Value),Inv X pins τ H' s'→SR X.K H0 Hs0 Hs' H' σ τ→bc Hs2 Hs'→Grow Hs2 H2 Hs' H'→H' s2.heap.objs.size=some (.lst vs)→Hs' s2.heap.objs.size=none→H2 s2.heap.objs.size=none→Reps X.K Hs' vs qs→s'.heap.Ns (s2.heap.objs.size+1) m →
   H' (s2.heap.objs.size+1)=none→RR (.ok .next) s'):
  codeAny (model X.prog X.w) X.A (.compStart (.ListComp elt [⟨tg,iter,[cd],0⟩] scope pos) 0 (.ref it) (.ref s2.heap.objs.size) (compEnvC scope cl (s2.heap.objs.size+1) X.env)) RR { s2 with heap:=h4,toks:=t4 }:=by
 have hD:H2 s2.heap.objs.size=none:=I2.hok.fresh (Nat.le_refl _)
 have hDs:Hs2 s2.heap.objs.size=none:=S2.g.i.free hD
 have I3:Inv X pins τ (upd H2 s2.heap.objs.size (.lst [])) { s2 with heap:=s2.heap.push { cls:=.type "list",data:=.seq ([]:List Value).toArray } }:=I2.lnew (its:=[]) (ys:=[]) (t':=s2.toks) .nil (by show 0≤sizeLine;exact Nat.zero_le _)
 have hsz:(s2.heap.push { cls:=.type "list",data:=.seq ([]:List Value).toArray }).objs.size=s2.heap.objs.size+1:=Heap.size_push ..
 have fpl:∀b∈fp,∃o,s2.heap.get? b=some o:=fun b hb=>by obtain⟨o,e,_⟩:=T.obj _ _ st b hb;exact⟨o,e⟩
 have fpD:∀b∈fp,b≠s2.heap.objs.size:=fun b hb=>by obtain⟨o,e⟩:=fpl b hb;exact Nat.ne_of_lt (Heap.lt_size e)
 have fpok3:∀b∈fp,gx X pins (upd H2 s2.heap.objs.size (.lst [])) b:=fun b hb=>⟨by rw[aR (fpD b hb)];exact(fpok b hb).1,(fpok b hb).2⟩
 have I4:=qg (h4:=h4) (t4:=t4) (fp:=fp) I3 O hcalm fpok3 (fun b hb=>by obtain⟨o,e⟩:=fpl b hb;exact Nat.lt_trans (Heap.lt_size e) (by rw[hsz];exact Nat.lt_succ_self _)) (by rw[hsz];exact hns) hsb
 rw[hsz]at I4
 generalize hX:cxC X pins scope cl (s2.heap.objs.size+1) N fp { s2 with heap:=s2.heap.push { cls:=.type "list",data:=.seq ([]:List Value).toArray } } (upd H2 s2.heap.objs.size (.lst []))=X' at I4
 have eA:X'.A=X.A:=by rw[←hX]
 have eP:X'.prog=X.prog:=by rw[←hX]
 have ew:X'.w=X.w:=by rw[←hX]
 have eK:X'.K=X.K:=by rw[←hX]
 have eE:X'.env=compEnvC scope cl (s2.heap.objs.size+1) X.env:=by rw[←hX]
 have exe:X'.xe=fun _ _=>False:=by rw[←hX]
 have ecalm:X'.calm=true:=by rw[←hX];exact hcalm
 have emg:X'.mg=X.mg:=by rw[←hX]
 have ebase:X'.base=X.base:=by rw[←hX]
 have eN:X'.N=N:=by rw[←hX]
 have stat:∀{H':Hp},(∀b∈fp,H' b=none)→∀b∈fp,gx X' [] H' b:=fun {H'} hn b hb=>by
  obtain⟨f0,f1,f2,f3,f4,f5⟩:=fpok b hb
  have sub:=g9 (cells:=X.env.cells) scope.names [] cl (fun x c e=>by cases e) O.clos
  obtain⟨o,e⟩:=fpl b hb
  refine⟨hn b hb,?_,?_,?_,fun x c ec=>?_,fun p hp=>?_⟩
  ·rw[eE];exact Nat.ne_of_lt (Nat.lt_succ_of_lt (Heap.lt_size e))
  ·have:X'.fs=frs X.stack:=by rw[←hX]
   rw[this];exact kA I2 f1 f2
  ·exact .inl (by rw[←hX];exact hb)
  ·rw[eE]at ec;exact f4 x c (sub x c ec)
  ·have:p∈X.pn++pins:=by rw[←hX]at hp;simpa[cxC] using hp
   exact f5 p this
 have st4:tn 0 h4:=T.keep _ _ _ st fun b hb o e=>hsb _ _ (Heap.get?_push_of_some _ e)
 have S4:SR X.K H2 Hs2 Hs2 (upd H2 s2.heap.objs.size (.lst [])) (inn k ix σ) (j4 k ix τ):=(S2.inn k ix).hid hDs hD (fun i xs=>f7 i xs)
 have hlen:=lY hm
 have loop:∀s5:Shared,s5 = { s2 with heap:=h4,toks:=t4 }→codeAny (model X.prog X.w) X.A (.compLoop (.ListComp elt [⟨tg,iter,[cd],0⟩] scope pos) 0 (.ref it) (.ref s2.heap.objs.size) (compEnvC scope cl (s2.heap.objs.size+1) X.env)) RR s5:=by
  intro s5 hs5
  refine codeAny_loop rfl (fun n s'=>∃i τ' Hs' H' vs,n+i=ps.length∧Inv X' [] τ' H' s'∧tn i s'.heap∧(∀b∈fp,H' b=none)∧SR X.K H2 Hs2 Hs' H' (inn k ix σ) τ'∧H' s2.heap.objs.size=some (.lst vs)∧Hs' s2.heap.objs.size=none∧∃pre,dS (df g tc de (inn k ix σ)) (ps.take i)=.ok pre∧Reps X.K Hs' vs pre) ?_ ps.length
   ⟨0,j4 k ix τ,Hs2,_,[],rfl,hs5▸I4,hs5▸st4,fun b hb=>by rw[aR (fpD b hb)];exact(fpok b hb).1,S4,aC,hDs,[],rfl,.nil⟩
  rintro n s6 ⟨i,τ6,Hs6,H6,vs,hni,I6,st6,fr6,S6,hD6,hDs6,pre,hpre,R6⟩
  show wpAny _ _ ((compTurn (.ListComp elt [⟨tg,iter,[cd],0⟩] scope pos) 0 (.ref it) (.ref s2.heap.objs.size) (compEnvC scope cl (s2.heap.objs.size+1) X.env)).onRaise (fun x=>do noteFrame x (compEnvC scope cl (s2.heap.objs.size+1) X.env);theTreesLotGoes x)) _ _ s6
  refine wpAny_noted ?_
  rw[compTurn_list]
  refine wpAny_bind (wpAny_standAt ?_)
  refine wpAny_noRaise ?_
  obtain⟨j1,j2⟩:=jok i H6 Hs6 S6.g.s S6.g.i
  change wpAny (model X.prog X.w) X.A _ _ _ s6
  by_cases hlt:i<ps.length
  ·obtain⟨go,yl⟩:=j1 hlt
   have hp':ps[i]? = some ps[i]:=List.getElem?_eq_getElem hlt
   obtain⟨o,hf⟩:=sZ hm i ps[i] hp'
   have hsnoc:dS (df g tc de (inn k ix σ)) (ps.take (i+1))=.ok (pre++o.toList):=by rw[List.take_add_one,hp'];exact ny hf hpre
   have hprel:=lY hpre
   have TI:=T.item X' eP ew eK ecalm i [] s6 τ6 H6 (fun _ _=>False) I6 (stat fr6) st6 go
   rw[eA]at TI
   refine wpAny_bind (thn TI fun r s7 ⟨u,hr,h7⟩=>?_)
   subst hr
   refine wpAny_bind (thn h7 fun _ s8 ⟨x,H8,I8,r8,y8,st8,fr8⟩=>?_)
   obtain⟨rfl,p,ep,rp⟩:=yl x H8 y8
   have ep':ps[i]=p:=by rw[hp']at ep;exact Option.some.inj ep
   subst ep'
   have I8':=I8.pinned (stat fr8) (T.obj _ _ st8)
   unfold df at hf
   have hg':QG X' H8 Hs6 tg g:=hX▸hg _ _ _ H8 Hs6
   have he':QE X' H8 Hs6 elt de:=hX▸he _ _ _ H8 Hs6
   have ht':QT X' H8 Hs6 cd tc:=hX▸ht _ _ _ H8 Hs6
   have S8:SR X.K H8 Hs6 Hs6 H8 (inn k ix σ) τ6:=S6.base' (fun i xs=>f7 i xs) (.refl S6.g.i)
   cases eg:g ps[i] (inn k ix σ) with
   |ok σ1=>
    rw[eg]at hf
    dsimp only at hf
    obtain⟨w1,w2⟩:=gk _ _ eg
    have hgr:=hg' _ s8 τ6 H8 x u (fun τ9 H9=>∃Hs9,SR X.K H8 Hs6 Hs9 H9 σ1 τ9) I8' r8 ⟨Hs6,inn k ix σ,ps[i],eK▸S8,eK▸(rp.mono S6.g.s),by
     rw[eg]
     exact fun Hs' H' τ' e S'=>⟨Hs',eK▸S'⟩⟩
    rw[eP,ew,eA,eE,exe]at hgr
    refine wpAny_bind (thn hgr fun _ s9 ⟨τ9,H9,I9,Hs9,S9⟩=>?_)
    cases et:tc σ1 with
    |ok b=>
     rw[et]at hf
     have htr:=ht' _ s9 τ9 H9 (fun b' H10=>b'=b∧∃Hs10,Grow Hs9 H9 Hs10 H10) I9 ⟨Hs9,σ1,eK▸S9,by
      rw[et]
      exact fun Hs' H' g'=>⟨rfl,Hs',g'⟩⟩
     rw[eP,ew,eA,eE,exe]at htr
     refine wpAny_bind (wpAny_tests_one (thn htr fun b' s10 ⟨H10,I10,eb,Hs10,g10⟩=>?_))
     subst eb
     have g6:Grow Hs6 H8 Hs10 H10:=S9.g.trans g10
     have hD10:H10 s2.heap.objs.size=some (.lst vs):=g6.h _ _ hD6
     have hDs10:Hs10 s2.heap.objs.size=none:=g6.o _ (by rw[hD6];exact fun z=>by cases z) hDs6
     cases b' with
     |true=>
      dsimp only at hf
      cases ev:noErr (de σ1) with
      |ok q=>
       rw[ev]at hf
       have ho:o=some q:=by cases hf;rfl
       subst ho
       have he2:QE X' H8 Hs6 elt de:=he'
       have S10:SR X.K H8 Hs6 Hs10 H10 σ1 τ9:=S9.grow g10
       have her:=he2 _ s10 τ9 H10 (fun y H11=>∃Hs11,Grow Hs10 H10 Hs11 H11∧Rep X.K Hs11 y q) I10 ⟨Hs10,σ1,eK▸S10,by
        rw[p6 ev]
        exact fun v Hs' H' g' r'=>⟨Hs',g',eK▸r'⟩⟩
       rw[eP,ew,eA,eE,exe]at her
       simp only[if_true]
       refine wpAny_bind (wpAny_bind (thn her fun y s11 ⟨y',H11,I11,ry,Hs11,g11,rq⟩=>?_))
       have g7:Grow Hs6 H8 Hs11 H11:=g6.trans g11
       have hD11:H11 s2.heap.objs.size=some (.lst vs):=g7.h _ _ hD6
       have hDs11:Hs11 s2.heap.objs.size=none:=g7.o _ (by rw[hD6];exact fun z=>by cases z) hDs6
       have hvl:vs.length<sizeLine:=by
        rw[R6.length,sizeLine_eq]
        rw[List.length_take]at hprel
        omega
       have hap:=j3 (X:=X') _ s11 τ9 H11 (.ref s2.heap.objs.size) [y'] (.ref s2.heap.objs.size) [y] (fun _ H'=>H'=upd H11 s2.heap.objs.size (.lst (vs++[y']))) I11 rfl (.cons ry .nil) ⟨_,vs,y',rfl,rfl,hD11,hvl,rfl⟩
       rw[eP,ew,eA,exe]at hap
       refine wpAny_bind (thn hap fun _ s12 ⟨_,H12,I12,_,eH⟩=>wpAny_pure (wpAny_pure ⟨rfl,n-1,by omega,i+1,τ9,Hs11,H12,vs++[y'],by omega,I12.unpinned,?_,?_,?_,?_,hDs11,_,hsnoc,?_⟩))
       ·exact T.keep _ _ _ st8 fun b hb o e=>(I12.pin (b,o) (List.mem_append_right _ (List.mem_append_right _ (bQ hb e)))).1
       ·intro b hb
        obtain⟨o,e,_⟩:=T.obj _ _ st8 b hb
        exact(I12.pin (b,o) (List.mem_append_right _ (List.mem_append_right _ (bQ hb e)))).2.1
       ·subst eH
        exact(((S10.weak w1 w2.symm).grow g11).base' (fun i xs=>f7 i xs) (S6.g.trans g7)).hid hDs11 hD (fun i xs=>f7 i xs)
       ·subst eH;exact aC
       ·exact(R6.mono g7.s).append (.cons rq .nil)
      |err c=>rw[ev]at hf;cases hf
      |stuck=>rw[ev]at hf;cases hf
     |false=>
      have ho:o=none:=by cases hf;rfl
      subst ho
      simp only[Bool.false_eq_true,if_false]
      refine wpAny_bind (wpAny_pure (wpAny_pure ⟨rfl,n-1,by omega,i+1,τ9,Hs10,H10,vs,by omega,I10.unpinned,?_,?_,?_,hD10,hDs10,_,hsnoc,?_⟩))
      ·exact T.keep _ _ _ st8 fun b hb o e=>(I10.pin (b,o) (List.mem_append_right _ (List.mem_append_right _ (bQ hb e)))).1
      ·intro b hb
       obtain⟨o,e,_⟩:=T.obj _ _ st8 b hb
       exact(I10.pin (b,o) (List.mem_append_right _ (List.mem_append_right _ (bQ hb e)))).2.1
      ·exact((S9.weak w1 w2.symm).grow g10).base' (fun i xs=>f7 i xs) (S6.g.trans g6)
      ·simpa using R6.mono g6.s
    |err c=>rw[et]at hf;cases hf
    |stuck=>rw[et]at hf;cases hf
   |err c=>rw[eg]at hf;cases hf
   |stuck=>rw[eg]at hf;cases hf
  ·have TD:=T.done X' eP ew eK ecalm i [] s6 τ6 H6 (fun _ _=>False) I6 (stat fr6) st6 (j2 (by omega))
   rw[eA]at TD
   refine wpAny_bind (thn TD fun r s7 ⟨hr,I7⟩=>?_)
   subst hr
   refine wpAny_pure ?_
   have hfull:ps.take i=ps:=List.take_of_length_le (by omega)
   rw[hfull,hm]at hpre
   have epre:qs=pre:=by cases hpre;rfl
   subst epre
   obtain⟨m,hm7,_⟩:=I7.loc
   have hfree:=I7.free
   have hos:=I7.os
   have hun:=I7.base
   have hok:=I7.hok
   rw[eE]at hm7 hfree
   rw[eP,ew]at hok
   rw[←hX]at hos hun
   have I9:Inv X pins τ H6 s7:=I3.call' (ch:=fp) hos hun hok I7.bare fun b hb=>by
    obtain⟨f0,f1,f2,f3,f4,f5⟩:=fpok b hb
    exact⟨f3,f1,f4,f5⟩
   exact hR s7 Hs6 H6 vs m I9 (S2.grow S6.g) S6.g.s S6.g hD6 hDs6 hD R6 hm7 hfree
 exact codeAny_compStart_list (loop _ rfl) (T.self _ _ _ _ _ st4 (loop _ rfl))
variable {d:DI}
structure BlkOkI (X:Cx) (tg elt cd:Expr) (scope:Scope) (cl:List (Str×Addr)) (N:List Str) (k:Nat) (ix:List Nat) (g:DG) (tc:DT) (de:DE):Prop where
 O:CompOk X scope cl N k ix
 calm:X.calm=true
 hg:∀(pins:List (Addr×Obj))(fp:List Addr)(C:Addr)(s:Shared)(H A B:Hp),QG (cxC X pins scope cl C N fp s H) A B tg g
 he:∀(pins:List (Addr×Obj))(fp:List Addr)(C:Addr)(s:Shared)(H A B:Hp),QE (cxC X pins scope cl C N fp s H) A B elt de
 ht:∀(pins:List (Addr×Obj))(fp:List Addr)(C:Addr)(s:Shared)(H A B:Hp),QT (cxC X pins scope cl C N fp s H) A B cd tc
 gk:∀σ p σ1,g p (inn k ix σ)=.ok σ1→(∀(j:Nat)(sv:SV),(inn k ix σ)[j]? = some (some sv)→σ1[j]? = some (some sv))∧σ1.length=(inn k ix σ).length
def nC(d:DI)(g:DG)(tc:DT)(de:DE)(k:Nat)(ix:List Nat):PSt→Res (List PV):=fun σ=>(d σ).bind fun ps=>match dS (df g tc de (inn k ix σ)) ps with
 |.ok qs=>if ps.length≤10000000 then .ok qs else .stuck
 |_=>.stuck
def eZ(d:DI)(g:DG)(tc:DT)(de:DE)(k:Nat)(ix:List Nat):DE:=fun σ=>(nC d g tc de k ix σ).bind fun qs=>.ok (.lst qs)
theorem Eg{E:Value→Shared→Prop}{Hs2 H2:Hp}{s2:Shared}{it:Addr}{fp:List Addr}{tn:Nat→Heap→Prop}{J:It}{ps qs:List PV}{RR:Value→Addr→Result→Shared→Prop}
  (B:BlkOkI X tg elt cd scope cl N k ix g tc de) (I2:Inv X pins τ H2 s2) (S2:SR X.K H0 Hs0 Hs2 H2 σ τ) (T:Turn X.prog X.w X.K tg J fp it tn) (st:tn 0 s2.heap) (fpok:∀b∈fp,gx X pins H2 b) (jok:JOk X.K J Hs2 ps)
  (hm:dS (df g tc de (inn k ix σ)) ps=.ok qs) (hl:ps.length≤10000000)
  (hR:∀(s':Shared)(Hs' H':Hp)(vs:List V)(D C:Addr)(m:Str→Option Value),Inv X pins τ H' s'→SR X.K H0 Hs0 Hs' H' σ τ→bc Hs2 Hs'→Grow Hs2 H2 Hs' H'→H' D=some (.lst vs)→Hs' D=none→H2 D=none→Reps X.K Hs' vs qs→s'.heap.Ns C m →
   gx X pins H' C→RR (.ref D) C (.ok .next) s'):
  wpAny (model X.prog X.w) X.A (newList []) (fun acc s3=>wpAny (model X.prog X.w) X.A (newFunctionEnv scope X.env.globals cl [] X.env.qual none .none (some X.env)) (fun cenv s4=>
   codeAny (model X.prog X.w) X.A (.compStart (.ListComp elt [⟨tg,iter,[cd],0⟩] scope pos) 0 (.ref it) acc { cenv with scope:=relabel scope X.env }) (RR acc cenv.locals) s4) E s3) E s2:=by
 refine wpAny_newObj_type (wpAny_newFunctionEnv B.O.nocell (by intro y hy;simp at hy) (fun h1 hns1 hsb1=>?_) B.O.kind)
 dsimp only at hns1 hsb1 ⊢
 have hsz:(s2.heap.push { cls:=.type "list",dict:=none,data:=.seq ([]:List Value).toArray }).objs.size=s2.heap.objs.size+1:=Heap.size_push ..
 rw[hsz]at hns1 hsb1 ⊢
 refine uN (t4:=s2.toks+0) I2 S2 B.O B.calm T st fpok jok (B.hg pins fp) (B.he pins fp) (B.ht pins fp) (B.gk σ) hm hl hns1 (fun b o e=>?_) (fun s' Hs' H' vs m I' S' e' gr h1' h2' h3' h4' h5' h6'=>?_)
 ·exact hsb1.extBut b o (Nat.ne_of_lt (by have:=Heap.lt_size e;rw[hsz]at this;exact this)) (Heap.get?_push_of_some _ e)
 ·exact hR s' Hs' H' vs _ _ m I' S' e' gr h1' h2' h3' h4' h5' (I2.fpOk (Nat.le_succ _) h6')
theorem vM(B:BlkOkI X tg elt cd scope cl N k ix g tc de)(hi:QI X H0 Hs0 tg iter d)(hs:∀x,foldedSetIterable iter X.env x=pure x):
  QE X H0 Hs0 (.ListComp elt [⟨tg,iter,[cd],0⟩] scope pos) (eZ d g tc de k ix):=by
 intro pins s τ H Q I ⟨Hs,σ,S,h⟩
 rw[eval_ListComp]
 have h0:wpAny (model X.prog X.w) X.A (eval iter X.env) (fun v s1=>wpAny (model X.prog X.w) X.A (pyIter v) (PIE X pins τ tg fun J H2=>∃Hs2 ps qs,Grow Hs H Hs2 H2∧JOk X.K J Hs2 ps∧dS (df g tc de (inn k ix σ)) ps=.ok qs∧ps.length≤10000000∧Ret X.K Hs H (.ok (.lst qs)) (bI X H0 Hs0) Q) X.xe s1) X.xe s:=by
  refine hi pins s τ H _ I ⟨Hs,σ,S,?_⟩
  rcases tu h with ⟨c,e,ec⟩|⟨ps,e,h1⟩
  ·rw[e];exact ec
  ·rw[e]
   intro J Hs2 H2 g2 j2
   cases em:dS (df g tc de (inn k ix σ)) ps with
   |ok qs=>
    simp only[em]at h1
    by_cases hl:ps.length≤10000000
    ·rw[if_pos hl]at h1
     exact⟨Hs2,ps,qs,g2,j2,em,hl,h1⟩
    ·rw[if_neg hl]at h1
     exact h1.elim
   |err c=>simp only[em]at h1;exact h1.elim
   |stuck=>simp only[em]at h1;exact h1.elim
 refine wpAny_comprehension_free (use:=none) rfl hs (jG B.O.clos) B.O.kind B.O.names (wpAny_mono h0 (fun v s1 h1=>wpAny_mono h1 (fun itv s2 h2=>?_) fun _ _ e=>e) fun _ _ e=>e)
 obtain⟨it,fp,tn,J,H2,rfl,I2,T,st,fpok,Hs2,ps,qs,g2,jok,hm,hl,hq⟩:=h2
 refine Eg B I2 (S.grow g2) T st fpok jok hm hl fun s' Hs' H' vs D C m I' S' e' gr h1 h2 h3 h4 h5 h6=>?_
 refine⟨m,h5,fun h' sb=>⟨.ref D,H',kK I' h6 sb,rfl,?_⟩⟩
 exact hq (.ref D) (upd Hs' D (.lst vs)) H' ((g2.trans gr).lay h1 h2 (g2.h.free h3)) (.lst aC (h4.mono (cB h2)))
theorem u7{xs:List Str}(own:List Str)(c:CapOk X scope ix xs)(k:GK own.length g)(hg:∀(pins:List (Addr×Obj))(fp:List Addr)(C:Addr)(s:Shared)(H A B:Hp),(cxC X pins scope (je X scope) C (own++xs) fp s H).N.Nodup→XG (cxC X pins scope (je X scope) C (own++xs) fp s H) A B tg g)
  (he:∀(pins:List (Addr×Obj))(fp:List Addr)(C:Addr)(s:Shared)(H A B:Hp),(cxC X pins scope (je X scope) C (own++xs) fp s H).N.Nodup→XE (cxC X pins scope (je X scope) C (own++xs) fp s H) A B elt de)
  (ht:∀(pins:List (Addr×Obj))(fp:List Addr)(C:Addr)(s:Shared)(H A B:Hp),(cxC X pins scope (je X scope) C (own++xs) fp s H).N.Nodup→XT (cxC X pins scope (je X scope) C (own++xs) fp s H) A B cd tc)
  (hk:scope.kind=.function:=by rfl) (hs:jn scope:=by decide +kernel) (hX:X.env.scope.kind=.function:=by rfl) (hc:(dX X.env.cells scope.names []).isSome=true:=by rfl) (hn:(own++xs).Nodup:=by decide) (hcalm:X.calm=true:=by rfl):
  BlkOkI X tg elt cd scope (je X scope) (own++xs) own.length ix g tc de:=
 ⟨xB hk hs hX hc hn c,hcalm,fun pins fp C s H A B=>(hg pins fp C s H A B hn).h,fun pins fp C s H A B=>(he pins fp C s H A B hn).h,fun pins fp C s H A B=>(ht pins fp C s H A B hn).h,fun σ p σ1 e=>k.h ix σ p σ1 e⟩
theorem u5{cl:List (Str×Addr)}{N:List Str}{k:Nat}(B:BlkOkI X tg elt cd scope cl N k ix g tc de)(hi:XI X H0 Hs0 tg iter d)(hs:gq iter=true:=by rfl):XE X H0 Hs0 (.ListComp elt [⟨tg,iter,[cd],0⟩] scope pos) (eZ d g tc de k ix):=⟨vM B hi.h (ir hs)⟩
theorem sY{α:Type}{f:PV→Res (Option PV)}{u:α→PV}{v:α→Option PV}{xs:List α}(h:∀x∈xs,f (u x)=.ok (v x)):dS f (xs.map u)=.ok (xs.filterMap v):=by
 induction xs with
 |nil=>rfl
 |cons x xs ih=>
  show dS f (u x::xs.map u)=_
  unfold dS
  rw[h x (.head _),ih fun y hy=>h y (.tail _ hy)]
  show Res.ok ((v x).toList++xs.filterMap v)=_
  rw[List.filterMap_cons]
  cases v x with
  |none=>rfl
  |some q=>rfl
theorem nz{α:Type}{σ:PSt}{u:α→PV}{v:α→Option PV}{xs:List α}(h1:d σ=.ok (xs.map u))(h2:∀x∈xs,df g tc de (inn k ix σ) (u x)=.ok (v x))(h3:xs.length≤10000000):eZ d g tc de k ix σ=.ok (.lst (xs.filterMap v)):=by
 unfold eZ nC
 rw[h1,Res.bind_ok,sY h2]
 show Res.bind (if (xs.map u).length≤10000000 then .ok (xs.filterMap v) else .stuck) _=_
 rw[if_pos (by rw[List.length_map];exact h3)]
 rfl
end
end G
namespace G
open PySem PySem.Spec PyProof.Rows L2 GS HM
def sN:List Value→List Int→Bool
 |[],[]=>true
 |.int i _::us,n::ns=>decide (i=n)&&sN us ns
 |_,_=>false
theorem lR:∀{us:List Value}{ns:List Int},sN us ns=true→Vals (ns.map V.int) us
 |[],[],_=>.nil
 |[],_::_,h=>by cases h
 |u::us,[],h=>by cases u<;>cases h
 |u::us,n::ns,h=>by
  cases u with
  |int i t=>
   have h':(decide (i=n)&&sN us ns)=true:=h
   rw[Bool.and_eq_true]at h'
   have e:i=n:=of_decide_eq_true h'.1
   subst e
   exact .cons ⟨t,rfl⟩ (lR h'.2)
  |_=>cases h
def qA(K:PySem.W.Frag)(C:Addr)(ns:List Int):Bool:=match K.lookup C with
 |some ⟨.type "tuple",_,.seq its _,_⟩=>decide (its.size≤100)&&sN its.toList ns
 |_=>false
structure ConAt (K:PySem.W.Frag) (x:Str) (ns:List Int):Prop where
 ex:∃C:Addr,dQ K x C∧qA K C ns=true
theorem Cz{K:PySem.W.Frag}{x:Str}{C:Addr}{ns:List Int}(a:dQ K x C)(q:qA K C ns=true):ConAt K x ns:=⟨C,a,q⟩
section
variable {X:Cx}{H0 Hs0:Hp}{x:Str}{pos:Pos}{ns:List Int}
theorem xy{K:PySem.W.Frag}{C:Addr}(H:Hp)(h:qA K C ns=true):SqT K H C (ns.map V.int):=by
 unfold qA at h
 split at h
 ·rename_i dd its n sl e
  rw[Bool.and_eq_true]at h
  have hz:its.size≤100:=of_decide_eq_true h.1
  exact .inr ⟨_,its,n,e,rfl,rfl,by rw[sizeLine_eq];omega,lR h.2⟩
 ·cases h
theorem Dw (h:ConAt X.K x ns) (hg:Gl X x) (hd:(x==("__debug__":Str))=false):QE X H0 Hs0 (.Name x pos) (eC (.tup (ns.map PV.int))):=by
 intro pins s τ H Q I ⟨Hs,σ,S,q⟩
 obtain⟨C,hc,hk⟩:=h.ex
 exact sJ I hg (PySem.W.mg_of I.mod.kin I.mod.glob hc) ⟨.ref C,H,I,rfl,q _ Hs H (.refl S.g.i) (.tup (xy Hs hk) (Reps.ints ns))⟩ hd
theorem AF (h:ConAt X.K x ns) (hg:Gl X x:=by rfl) (hd:(x==("__debug__":Str))=false:=by decide):XE X H0 Hs0 (.Name x pos) (eC (.tup (ns.map PV.int))):=⟨Dw h hg hd⟩
end
end G
namespace GS
open PySem
namespace FD
theorem Ar:mroOf (.type "dict")=pure [.type "dict",.type "object"]:=by rw[mroOf_type];kernel_rfl
theorem DW:typeLookup (.type "dict") "__new__" = pure (some (.builtin "dict.__new__")):=by rw[typeLookup_type,builtinLookup_eq_fast];kernel_rfl
theorem called_d:TypeCalled "dict" "dict.__new__" "dict.__init__":=
 ⟨by decide +kernel,by decide +kernel,⟨_,_,Ar⟩,madeBy_type Ar DW (by decide +kernel),by decide +kernel,by rw[isSubtype_type];kernel_rfl,PySem.F.slot_dict_init⟩
theorem tc_d (a:Value):checkTypeCall "dict" ⟨[a],[]⟩=pure ():=by kernel_rfl
theorem en_loop:entryFor table "dict.update.loop" = some Builtin.«dict.update.loop»:=entryFor_of_tree (by kernel_rfl)
theorem pl_loop:plainId "dict.update.loop" = true:=by decide +kernel
theorem no_keys:typeLookup (.type "list") "keys" = pure none:=by rw[typeLookup_type,builtinLookup_eq_fast];kernel_rfl
theorem sub_ae:isSubtype (.type "AttributeError") (.type "AttributeError")=pure true:=by rw[isSubtype_type];kernel_rfl
end FD
section
variable {prog:Program}{w:World}{A:Around}{E:Value→Shared→Prop}{s:Shared}
theorem zD {l:Addr} {o:Obj} {xs:Array Value} {k:Nat} {Q:Option Value→Shared→Prop} (hx:s.heap.get? l=some o) (hc:o.cls=.type "list") (hdat:o.data=.seq xs k) (hd:o.dict=none) (hA:A.handled=none)
  (h:∀h' tk,(∀b ob,s.heap.get? b=some ob→h'.get? b=some ob)→Q none { s with heap:=h',toks:=tk }):wpAny (model prog w) A (getAttr? (.ref l) "keys") Q E s:=by
 obtain⟨c,dct,dat,sl⟩:=o
 simp only at hc hdat hd
 subst hc;subst hdat;subst hd
 obtain⟨hp,g,d,tk,os⟩:=s
 have hT:∀tk',(⟨hp,g,d,tk',os⟩:Shared).TypeIs (.ref l) "list":=fun _=>⟨_,hx,rfl⟩
 have z1:=FD.sub_ae
 have z2:=PySem.F.slot_list_getattribute.lookup
 have z3:=PySem.F.slot_list_getattribute.bind (.ref l)
 have z4:=am_list_getattr_none
 unfold getAttr? getAttrBy? getAttrBy
 repeat (any_goals (first | assumption | exact hT _ | ((with_reducible show wpAny _ _ (call (Value.builtin "list.__getattribute__") _ _) _ _ _); refine call_meets PySem.F.slot_list_getattribute (hT _) am_entry_list_getattribute (PySem.F.args_list_getattribute_2 _ _) (meets_getattribute_miss_list l xs k sl "keys" _ FD.no_keys (by decide +kernel)) ⟨hx,hA,fun h' tk' e hx'=>?_⟩) | wp_step))
 obtain⟨t',u',he⟩:=hx'.there
 change wpAny _ _ (getattributeRaised _ _ _ _ _ _ _) _ _ _
 unfold getattributeRaised
 repeat (any_goals (first | assumption | wp_step))
 exact h _ _ hx'.keeps
abbrev TKd(prog:Program)(w:World):HeapKind prog w (List Int):=tupleKind (intKind prog w)
def kg (h:Heap) (p b:Addr):Prop:=∃o n,h.get? p=some o∧o.cls=.type "tuple"∧o.data=.seq #[.ref b,.bool true] n
def fo(xs:List (List Int×Addr×Value))(kb:List Int×Addr):List (List Int×Addr×Value):=storedH xs kb.1 kb.2 (.bool true)
theorem TKk {h h':Heap} {k:List Int} {b:Addr} {wr:List Addr} (x:IsTupleKey (intKind prog w) h k b) (hk:∀c o,c∉wr→h.get? c=some o→h'.get? c=some o) (hw:∀c∈wr,∃o,h.get? c=some o∧o.cls≠.type "tuple"):IsTupleKey (intKind prog w) h' k b:=by
 obtain⟨o,items,n,ho,hc,hd,hi⟩:=x
 refine⟨o,items,n,hk b o (fun hb=>?_) ho,hc,hd,hi⟩
 obtain⟨o',ho',hne⟩:=hw b hb
 rw[ho]at ho'
 cases ho'
 exact hne hc
theorem kg.keep {h h':Heap} {p b:Addr} {wr:List Addr} (x:kg h p b) (hk:∀c o,c∉wr→h.get? c=some o→h'.get? c=some o) (hw:∀c∈wr,∃o,h.get? c=some o∧o.cls≠.type "tuple"):kg h' p b:=by
 obtain⟨o,n,ho,hc,hd⟩:=x
 refine⟨o,n,hk p o (fun hb=>?_) ho,hc,hd⟩
 obtain⟨o',ho',hne⟩:=hw p hb
 rw[ho]at ho'
 cases ho'
 exact hne hc
theorem iy {h h':Heap} {d:Addr} {xs:List (List Int×Addr×Value)} {wr:List Addr} (x:h.DictOfH (TKd prog w) d xs) (hd:d∉wr) (hk:∀c o,c∉wr→h.get? c=some o→h'.get? c=some o) (hw:∀c∈wr,∃o,h.get? c=some o∧o.cls≠.type "tuple"):h'.DictOfH (TKd prog w) d xs:=by
 obtain⟨o,es,ep,ho,hc,hdd,he,hi,hn⟩:=x
 exact⟨o,es,ep,hk d o hd ho,hc,hdd,he,fun y hy=>TKk (hi y hy) hk hw,hn⟩
theorem Ae(xs:List (List Int×Addr×Value))(kb:List Int×Addr):(fo xs kb).length≤xs.length+1:=by
 unfold fo
 cases h:atKey xs kb.1 with
 |none=>rw[storedH_new h];simp
 |some p=>rw[storedH_old h];simp
theorem my:∀(kbs:List (List Int×Addr))(xs:List (List Int×Addr×Value)),(kbs.foldl fo xs).length≤xs.length+kbs.length
 |[],xs=>Nat.le_refl _
 |kb::kbs,xs=>by
  have h1:=my kbs (fo xs kb)
  have h2:=Ae xs kb
  simp only[List.foldl_cons,List.length_cons]
  omega
theorem Ee{R:Result→Shared→Prop}{it d:Addr}{fp wr:List Addr}{G:Array GenState→Array GenState→Prop}{n:Nat}{P:Nat→Value→Prop}{St:Nat→Shared→Prop}(W:WalksS prog w A.in1 it fp wr G n P St)(hu:A.in1.units<cLine)
  (hdf:d∉fp) (hw:∀i s,St i s→∀c∈wr,∃o,s.heap.get? c=some o∧o.cls≠.type "tuple") {kbs:List (List Int×Addr)} (hl:kbs.length=n) (hz:n≤10000)
  (TT:Heap→Prop) (hTT:∀h,TT h→∀i v,P i v→∃p kb,v=.ref p∧kbs[i]? = some kb∧kg h p kb.2∧IsTupleKey (intKind prog w) h kb.1 kb.2)
  (hTk:∀(h h':Heap) (wr':List Addr),TT h→(∀c o,c∉wr'→h.get? c=some o→h'.get? c=some o)→(∀c∈wr',∃o,h.get? c=some o∧o.cls≠.type "tuple")→TT h'):
  ∀(m i:Nat)(s:Shared),n-i=m→i≤n→St i s→TT s.heap→s.heap.DictOfH (TKd prog w) d ((kbs.take i).foldl fo [])→(∀s',Moved (d::wr) G s s'→s'.heap.DictOfH (TKd prog w) d (kbs.foldl fo [])→R (.ok (.ret .none)) s') →
   codeAny (model prog w) A (.builtin "dict.update.loop" ⟨[.ref d,.ref it,rawInt (i:Int),.none],[]⟩) R s:=by
 have hdw:d∉wr:=fun q=>hdf (W.sub _ q)
 have sb:∀c∈wr,c∈d::wr:=fun c hc=>List.mem_cons_of_mem _ hc
 intro m
 induction m with
 |zero=>
  intro i s e1 e2 st _ hS hR
  obtain rfl:i=n:=by omega
  refine codeAny_builtin FD.en_loop ?_
  rw[Around.under_plainId FD.pl_loop _]
  refine wpAny_bind (m:=pyNext (.ref it)) (W.done s _ _ st fun s' mv=>?_)
  rw[List.take_of_length_le (by omega)]at hS
  exact wpAny_bind (wpAny_pure (wpAny_pure (hR s' (mv.mono sb) (iy hS hdw mv.heap (hw _ s st)))))
 |succ m ih=>
  intro i s e1 e2 st tt hS hR
  have hi:i<n:=by omega
  refine codeAny_builtin FD.en_loop ?_
  rw[Around.under_plainId FD.pl_loop _]
  refine wpAny_bind (m:=pyNext (.ref it)) (W.item i s _ _ hi st fun v s' hP st' mv=>?_)
  have tt':=hTk _ _ wr tt mv.heap (hw _ s st)
  obtain⟨p,kb,rfl,hki,hp,hb⟩:=hTT _ tt' i v hP
  have hS':=iy hS hdw mv.heap (hw _ s st)
  have hlen:=my (kbs.take i) []
  have hlt:(kbs.take i).length≤n:=by rw[List.length_take];omega
  refine wpAny_bind (m:=holding [Value.ref p] _) (wpAny_holding ?_)
  obtain⟨po,pn,hpo,hpc,hpd⟩:=hp
  refine wpAny_bind (wpAny_tryCatch ?_)
  unfold Builtin.Dict.pairItems
  refine wpAny_bind (wpAny_typeOf (T:="tuple") ⟨po,hpo,hpc⟩ ?_)
  rw[if_pos (by decide)]
  refine wpAny_bind (wpAny_seqItems hpo hpd (wpAny_pure ?_))
  change wpAny _ _ (holding [Value.ref kb.2,Value.bool true] (dictSet d (.ref kb.2) (.bool true))) _ _ _
  refine wpAny_holding (wpAny_dictSet_heap (knd:=TKd prog w) hu hb hS' (fun h' hS2 sbt=>?_) (by have:n≤10000:=hz;rw[sizeLine_eq];simp at hlen;omega))
  have ek:storedH ((kbs.take i).foldl fo []) kb.1 kb.2 (.bool true)=(kbs.take (i+1)).foldl fo []:=by
   rw[List.take_add_one,hki,List.foldl_append];rfl
  rw[ek]at hS2
  have keepS:∀c o,c∉[d]→s'.heap.get? c=some o→h'.get? c=some o:=fun c o hc e=>by
   rw[sbt.2 c (fun q=>hc (by simp[q]))];exact e
  obtain⟨od,es,ep,hod,hcd,hdd,_⟩:=hS'
  refine wpAny_pure ⟨plainId_quiet FD.pl_loop _,ih (i+1) _ (by omega) hi (W.frame _ s' _ _ st' (Nat.le_add_right _ _) fun c hc o e=>keepS c o (fun q=>hdf (by simp at q;rw[←q];exact hc)) e) ?_ hS2 fun s'' mv'' hS''=>?_⟩
  ·exact hTk _ _ [d] tt' keepS fun c hc=>by
    simp at hc;subst hc
    exact⟨_,hod,by rw[hcd.1];decide⟩
  ·exact hR s'' (Moved.trans W.gtrans ((mv.mono sb).then_heap (Nat.le_add_right _ _) fun c o hc e=>keepS c o (fun q=>hc (by simp at q;simp[q])) e) mv'') hS''
theorem rT{l:Addr}{items:Array Value}{kbs:List (List Int×Addr)}{Q:Value→Shared→Prop}(hh:A.handled=none)(hu:A.units+10<cLine)(hl:s.heap.IsList l items)(hdn:∀o,s.heap.get? l=some o→o.dict=none)(hz:kbs.length=items.size)(h63:items.size≤10000)
  (hT:∀(i:Nat)(v:Value),items[i]? = some v→∃p kb,v=.ref p∧kbs[i]? = some kb∧kg s.heap p kb.2∧IsTupleKey (intKind prog w) s.heap kb.1 kb.2)
  (h:∀(h':Heap)(tk:Nat),h'.DictOfH (TKd prog w) s.heap.objs.size (kbs.foldl fo [])→(∀b o,s.heap.get? b=some o→h'.get? b=some o)→Q (.ref s.heap.objs.size) { s with heap:=h',toks:=tk }):
  wpAny (model prog w) A (call (.type "dict") [.ref l]) Q E s:=by
 refine callType_codes (Q₁:=fun obj s₁=>obj=.ref s.heap.objs.size∧s₁ = { s with heap:=s.heap.push { cls:=.type "dict",data:=.dict #[] } }) FD.called_d (FD.tc_d _) PySem.F.entry_dict_init (kt_code_dict_new _ ⟨rfl,rfl⟩) fun obj s₁ hs₁=>?_
 obtain⟨rfl,rfl⟩:=hs₁
 have hD:(s.heap.push { cls:=.type "dict",data:=.dict #[] }).DictOfH (TKd prog w) s.heap.objs.size []:=Heap.DictOfH.new s.heap
 have hl1:(s.heap.push { cls:=.type "dict",data:=.dict #[] }).IsList l items:=hl.push _
 obtain⟨ol,gl,cl,nl,dl⟩:=id hl
 have dn:=hdn ol gl
 have gl1:(s.heap.push { cls:=.type "dict",data:=.dict #[] }).get? l=some ol:=Heap.get?_push_of_some _ gl
 have lS:l<s.heap.objs.size:=Heap.lt_size gl
 refine⟨hD.typeIs,PySem.F.args_dict_init_2 _ _,?_⟩
 unfold Builtin.«dict.__init__» Builtin.Dict.selfAndRest
 refine wpAny_bind (wpAny_bind (wpAny_notOrdered_dict hD.typeIs ?_))
 change wpAny _ _ (pure (s.heap.objs.size,[Value.ref l])) _ _ _
 refine wpAny_pure ?_
 change wpAny _ _ (Builtin.Dict.updateFrom "dict.__init__" s.heap.objs.size (.ref l) [] .none) _ _ _
 unfold Builtin.Dict.updateFrom
 refine wpAny_bind (wpAny_typeOf (T:="list") ⟨ol,gl1,cl⟩ ?_)
 rw[if_pos (by decide)]
 refine wpAny_bind (zD (s:={ s with heap:=s.heap.push { cls:=.type "dict",data:=.dict #[] } }) gl1 cl dl dn hh fun h1 tk1 k1=>?_)
 rw[if_pos (by rfl)]
 have hl2:h1.IsList l items:=⟨ol,k1 _ _ gl1,cl,nl,dl⟩
 have hD2:h1.DictOfH (TKd prog w) s.heap.objs.size []:=iy (wr:=[]) hD (by simp) (fun c o _ e=>k1 c o e) (fun c hc=>by simp at hc)
 have up:∀b o,s.heap.get? b=some o→h1.get? b=some o:=fun b o e=>k1 b o (Heap.get?_push_of_some _ e)
 have sz:s.heap.objs.size<h1.objs.size:=by
  obtain⟨_,_,_,g,_⟩:=hD2
  exact Heap.lt_size g
 refine wpAny_bind (wpAny_rule (wpAny_bind (wpAny_pyIter_list (s:={ s with heap:=h1,toks:=tk1 }) hl2 (wpAny_pure ⟨plainId_quiet FD.pl_loop _,?_⟩))))
 refine Ee (A:=A.in1) (TT:=fun h=>∀(i:Nat)(v:Value),items[i]? = some v→∃p kb,v=.ref p∧kbs[i]? = some kb∧kg h p kb.2∧IsTupleKey (intKind prog w) h kb.1 kb.2)
  ((Walks.list (by simp[hh]) h1.objs.size l (Nat.ne_of_lt (Nat.lt_trans lS sz)) items).toS) (d:=s.heap.objs.size) (by simp only[Around.in1_units];omega)
  (by simp only[List.mem_cons,List.not_mem_nil,or_false,not_or];exact⟨Nat.ne_of_lt sz,Nat.ne_of_gt lS⟩) (fun i s' st c hc=>?_) hz h63 (fun h tt i v hv=>tt i v hv) (fun h h' wr tt hk hw i v hv=>let⟨p,kb,e1,e2,e3,e4⟩:=tt i v hv;⟨p,kb,e1,e2,e3.keep hk hw,TKk e4 hk hw⟩) (items.size-0) 0 _ (by omega) (Nat.zero_le _)
  ⟨⟨_,Heap.get?_push_size _ rfl,rfl,rfl⟩,hl2.push _⟩ (fun i v hv=>?_) ?_ fun s' mv hS'=>?_
 ·obtain rfl:=List.mem_singleton.mp hc
  obtain⟨⟨o,go,co,_⟩,_⟩:=st
  exact⟨o,go,by rw[co];decide⟩
 ·obtain⟨p,kb,e1,e2,e3,e4⟩:=hT i v hv
  have kp:∀c o,c∉([]:List Addr)→s.heap.get? c=some o→(h1.push { cls:=.type "list_iterator",data:=.fields #[.ref l,.int 0 0] }).get? c=some o:=fun c o _ e=>Heap.get?_push_of_some _ (up c o e)
  exact⟨p,kb,e1,e2,e3.keep (wr:=[]) kp (fun c hc=>by simp at hc),TKk (wr:=[]) e4 kp (fun c hc=>by simp at hc)⟩
 ·rw[List.take_zero]
  exact iy (wr:=[]) hD2 (by simp) (fun c o _ e=>Heap.get?_push_of_some _ e) (fun c hc=>by simp at hc)
 ·obtain⟨h',g',d',tk',os'⟩:=s'
  have eg:g'=s.gens:=mv.gens
  have ed:d'=s.drawn:=mv.drawn
  have eo:os'=s.os:=mv.os
  subst eg;subst ed;subst eo
  refine⟨rfl,h h' tk' hS' fun b o e=>?_⟩
  have bl:b<s.heap.objs.size:=Heap.lt_size e
  exact mv.heap b o (by simp only[List.mem_cons,List.not_mem_nil,or_false,not_or];exact⟨Nat.ne_of_lt bl,Nat.ne_of_lt (Nat.lt_trans bl sz)⟩) (Heap.get?_push_of_some _ (up b o e))
end
end GS
namespace GS
open PySem PySem.W PySem.Calls PyProof.Rows
def pk(h:Heap)(d:Addr)(es:Array DictEntry)(ep:Nat):Prop:=∃o,h.get? d=some o∧o.ExactDict∧o.data=.dict es ep
theorem pk.ty {s:Shared} {d:Addr} {es:Array DictEntry} {ep:Nat} (x:pk s.heap d es ep):s.TypeIs (.ref d) "dict":=let⟨o,ho,hc,_⟩:=x;⟨o,ho,hc.1⟩
theorem pk.lt{h:Heap}{d:Addr}{es:Array DictEntry}{ep:Nat}(x:pk h d es ep):d<h.objs.size:=let⟨_,ho,_⟩:=x;Heap.lt_size ho
theorem pk.at{h h':Heap}{d:Addr}{es:Array DictEntry}{ep:Nat}(x:pk h d es ep)(hk:∀o,h.get? d=some o→h'.get? d=some o):pk h' d es ep:=let⟨o,ho,r⟩:=x;⟨o,hk o ho,r⟩
section
variable {prog:Program}{w:World}{A:Around}{E:Value→Shared→Prop}{s:Shared}{it d:Addr}{es:Array DictEntry}{ep i:Nat}
theorem vC{Q:Value→Shared→Prop}(hd:(d==sysModules)=false)(hm:pk s.heap d es ep)
  (hQ:Q (.ref s.heap.objs.size) { s with heap:=s.heap.push { cls:=.type "dict_keyiterator",data:=.fields #[.ref d,.int 0 0,.int es.size 0,.int ep 0] } }):wpAny (model prog w) A (pyIter (.ref d)) Q E s:=by
 have hT:=hm.ty
 obtain⟨o,ho,hc,hdat⟩:=id hm
 refine wpAny_pyIter_slot hT PySem.F.slot_dict_iter (wpAny_call_entry PySem.F.slot_dict_iter hT PySem.F.entry_dict_iter ?_ (PySem.F.args_dict_iter_1 _))
 unfold Builtin.«dict.__iter__» Builtin.Dict.dictSlotNone
 refine wpAny_bind (wpAny_bind (wpAny_notOrdered_dict hT ?_))
 change wpAny _ _ (pure (Value.ref d)) _ _ s
 refine wpAny_pure ?_
 change wpAny _ _ (Builtin.Dict.showsAll d >>= _) _ _ s
 unfold Builtin.Dict.showsAll
 rw[if_neg (by rw[hd];exact Bool.false_ne_true)]
 refine wpAny_bind (wpAny_pure (wpAny_bind (wpAny_dictEntries ho hdat (wpAny_bind (wpAny_dictEpoch ho hdat ?_)))))
 exact wpAny_bind (wpAny_newObj_type (wpAny_pure ⟨_,rfl,"dict_keyiterator",_,⟨_,Heap.get?_push_size _ rfl,rfl⟩,PySem.F.slot_dict_keyiterator_next.lookup,hQ⟩))
theorem vD{e:DictEntry}{Q:Option Value→Shared→Prop}(hit:s.heap.IsKeyIter it d i es.size ep)(hm:pk s.heap d es ep)(hx:es[i]? = some e)
  (hQ:∀h',h'.IsKeyIter it d (i+1) es.size ep→Heap.SameBut it s.heap h'→Q (some e.key) { s with heap:=h' }):wpAny (model prog w) A (pyNext (.ref it)) Q E s:=by
 obtain⟨o,ho,hc,hd⟩:=id hit
 obtain⟨od,hod,hcd,hdd⟩:=id hm
 have T:=hit.typeIs
 unfold pyNext
 refine wpAny_bind (wpAny_attempt (wpAny_callSpecial?_slot (name:=Str.ofString "__next__") T PySem.F.slot_dict_keyiterator_next (wpAny_call_entry PySem.F.slot_dict_keyiterator_next T PySem.F.entry_dict_keyiterator_next ?_ (PySem.F.args_dict_keyiterator_next_1 _))))
 refine wpAny_bind (wpAny_pure (wpAny_bind (wpAny_bind ?_)))
 first | refine wpAny_bind (wpAny_typeNameOfWhole_keyiter T (wpAny_pure (wpAny_bind (wpAny_fieldsOf ho hd ?_)))) | refine wpAny_bind (wpAny_typeNameOf_keyiter T (wpAny_pure (wpAny_bind (wpAny_fieldsOf ho hd ?_))))
 simp only[show Builtin.Dict_items.ownsTuple "dict_keyiterator" = false by decide,Bool.false_eq_true,if_false]
 change wpAny _ _ (if (Value.ref d==Value.none)=true then _ else _) _ _ s
 rw[if_neg (fun z=>absurd z (by exact Bool.false_ne_true))]
 refine wpAny_bind (wpAny_pure (wpAny_bind (wpAny_dictEntries hod hdd ?_)))
 rw[if_neg (by simp)]
 refine wpAny_bind (wpAny_pure (wpAny_bind (wpAny_dictEpoch hod hdd ?_)))
 rw[if_neg (by simp)]
 refine wpAny_pure ?_
 have lt:i<es.size:=(Array.getElem?_eq_some_iff.mp hx).1
 simp only[show ¬((i:Int)<0) from by omega,if_false,Int.toNat_natCast,hx]
 refine wpAny_bind ?_
 first | refine wpAny_bind (wpAny_typeNameOfWhole_keyiter T (wpAny_pure (wpAny_bind (wpAny_isOneOf_keyiter T ?_)))) | refine wpAny_bind (wpAny_typeNameOf_keyiter T (wpAny_pure (wpAny_bind (wpAny_isOneOf_keyiter T ?_))))
 change wpAny _ _ (setField (.ref it) 1 (rawInt ((i:Int)+1)) >>= _) _ _ s
 have next:(s.heap.update it (Obj.mapFields (·.setIfInBounds 1 (rawInt ((i:Int)+1))))).IsKeyIter it d (i+1) es.size ep:=
  ⟨_,Heap.get?_update_self _ ho (Obj.isFreed_of_fields (Obj.data_mapFields hd _)),(Obj.cls_mapFields ..).trans hc,by rw[Obj.data_mapFields hd];simp[rawInt]⟩
 refine wpAny_bind (wpAny_setField ho hd (by simp) (wpAny_bind (wpAny_holding ?_)))
 refine wpAny_bind (wpAny_isOneOf_keyiter (s:={ s with heap:=s.heap.update it (Obj.mapFields (·.setIfInBounds 1 (rawInt ((i:Int)+1)))) }) next.typeIs ?_)
 change wpAny _ _ (pure e.key) _ _ _
 exact wpAny_pure (wpAny_pure ⟨_,rfl,wpAny_pure (hQ _ next (Heap.SameBut.update ..))⟩)
theorem yC{Q:Option Value→Shared→Prop}(hh:A.handled=none)(hit:s.heap.IsKeyIter it d es.size es.size ep)(hm:pk s.heap d es ep)(hQ:∀h',Heap.ExtBut it s.heap h'→Q none { s with heap:=h' }):wpAny (model prog w) A (pyNext (.ref it)) Q E s:=by
 obtain⟨o,ho,hc,hd⟩:=id hit
 obtain⟨od,hod,hcd,hdd⟩:=id hm
 have T:=hit.typeIs
 unfold pyNext
 refine wpAny_bind (wpAny_attempt (wpAny_callSpecial?_slot (name:=Str.ofString "__next__") T PySem.F.slot_dict_keyiterator_next (wpAny_call_entry PySem.F.slot_dict_keyiterator_next T PySem.F.entry_dict_keyiterator_next ?_ (PySem.F.args_dict_keyiterator_next_1 _))))
 refine wpAny_bind (wpAny_pure (wpAny_bind (wpAny_bind ?_)))
 first | refine wpAny_bind (wpAny_typeNameOfWhole_keyiter T (wpAny_pure (wpAny_bind (wpAny_fieldsOf ho hd ?_)))) | refine wpAny_bind (wpAny_typeNameOf_keyiter T (wpAny_pure (wpAny_bind (wpAny_fieldsOf ho hd ?_))))
 simp only[show Builtin.Dict_items.ownsTuple "dict_keyiterator" = false by decide,Bool.false_eq_true,if_false]
 change wpAny _ _ (if (Value.ref d==Value.none)=true then _ else _) _ _ s
 rw[if_neg (fun z=>absurd z (by exact Bool.false_ne_true))]
 refine wpAny_bind (wpAny_pure (wpAny_bind (wpAny_dictEntries hod hdd ?_)))
 rw[if_neg (by simp)]
 refine wpAny_bind (wpAny_pure (wpAny_bind (wpAny_dictEpoch hod hdd ?_)))
 rw[if_neg (by simp)]
 refine wpAny_pure ?_
 simp only[show ¬((es.size:Int)<0) from by omega,if_false,Int.toNat_natCast,Array.getElem?_eq_none (Nat.le_refl _)]
 refine wpAny_bind ?_
 first | refine wpAny_bind (wpAny_typeNameOfWhole_keyiter T (wpAny_pure ?_)) | refine wpAny_bind (wpAny_typeNameOf_keyiter T (wpAny_pure ?_))
 change wpAny _ _ (setField (.ref it) 0 .none >>= _) _ _ s
 refine wpAny_bind (wpAny_setField ho hd (by simp) ?_)
 change wpAny _ _ (newExc (.type "StopIteration") [] >>= _) _ _ _
 refine wpAny_bind ?_
 simp only[newExc,newTuple]
 refine wpAny_bind (wpAny_newObj_type (wpAny_bind (m:=firstArgMember _ _) (wpAny_of_eq (a:=Value.none) (by first|rfl | (simp only[firstArgMember];rfl)) (wpAny_newObj_type ?_ (by size_fits)))) (by size_fits))
 simp only[raiseNew]
 refine wpAny_bind (wpAny_handled ?_)
 rw[show A.in1.handled=none from hh]
 refine wpAny_bind (wpAny_pure (wpAny_throw ?_))
 refine wpAny_bind (wpAny_isInstance (T:="StopIteration") (b:=true) ⟨_,Heap.get?_push_size _ rfl,rfl⟩ isSubtype_stop ?_)
 exact wpAny_pure (hQ _ (((Heap.SameBut.update ..).extBut.push _).push _))
theorem vz(hh:A.handled=none)(I d:Addr)(hne:d≠I)(es:Array DictEntry)(ep:Nat):
  Walks prog w A I [I,d] [I] es.size (fun i v=>∃e,es[i]? = some e∧v=e.key) (fun i h=>h.IsKeyIter I d i es.size ep∧pk h d es ep) where
 sub:=fun b hb=>by simp at hb;simp[hb]
 frame:=fun _ _ _ st hk=>⟨st.1.at fun o e=>hk I (by simp) o e,st.2.at fun o e=>hk d (by simp) o e⟩
 item:=fun i s Q E hi st hQ=>by
  refine vD st.1 st.2 (Array.getElem?_eq_getElem hi) fun h' hit' hs'=>?_
  exact hQ _ h' s.toks ⟨_,Array.getElem?_eq_getElem hi,rfl⟩ ⟨hit',st.2.at fun o e=>hs'.extBut d o hne e⟩ fun b o hb e=>hs'.extBut b o (fun h=>hb (by simp[h])) e
 done:=fun s Q E st hQ=>yC hh st.1 st.2 fun h' he'=>hQ h' s.toks fun b o hb e=>he' b o (fun h=>hb (by simp[h])) e
 self:=fun _ _ _ _ st hQ=>wpAny_pyIter_keyiter st.1 hQ
theorem yB (lo:(d==sysModules)=false):KdlSrc prog w "dict" d d es.size (fun i v=>∃e,es[i]? = some e∧v=e.key) (fun h=>pk h d es ep) where
 type:=fun _ hm=>hm.ty
 there:=fun _ hm=>⟨hm.lt,hm.lt⟩
 keep:=fun _ _ hm hk=>hm.at fun o e=>hk d (.inl rfl) o e
 notList:=by decide
 notTuple:=by decide
 hint:=fun _ _ _ _ hm hq=>kdl_hint_dict hm.ty hq
 iter:=fun _ _ hh hm=>⟨_,_,(fun _ _ hq=>vC lo hm hq),vz hh _ d (Nat.ne_of_lt hm.lt) es ep,⟨⟨_,Heap.get?_push_size _ rfl,rfl,rfl⟩,hm.at fun o e=>Heap.get?_push_of_some _ e⟩⟩
end
end GS
namespace G
open PySem PySem.Spec PyProof.Rows L2 GS HM
def pe(acc:List (List Int))(k:List Int):List (List Int):=if k∈acc then acc else acc++[k]
def sE(ks:List (List Int)):List (List Int):=ks.foldl pe []
theorem nI(xs:List (List Int×Addr×Value))(k:List Int):(atKey xs k=none↔k∉xs.map (·.1)):=by
 unfold atKey
 rw[Option.map_eq_none_iff,List.find?_eq_none]
 constructor
 ·intro h hm
  obtain⟨x,hx,e⟩:=List.mem_map.mp hm
  exact h x hx (by simpa using e)
 ·intro h x hx
  simp only[decide_eq_true_eq]
  exact fun e=>h (List.mem_map.mpr ⟨x,hx,e⟩)
theorem qJ:∀(kbs:List (List Int×Addr))(xs:List (List Int×Addr×Value)),(∀x∈xs,x.2.2=.bool true) →
  (∀y∈kbs.foldl fo xs,y.2.2=.bool true)∧(kbs.foldl fo xs).map (·.1)=(kbs.map (·.1)).foldl pe (xs.map (·.1))∧∀y∈kbs.foldl fo xs,y∈xs∨(y.1,y.2.1)∈kbs
 |[],xs,h=>⟨h,rfl,fun y hy=>.inl hy⟩
 |kb::kbs,xs,h=>by
  have key:(∀y∈fo xs kb,y.2.2=.bool true)∧(fo xs kb).map (·.1)=pe (xs.map (·.1)) kb.1∧∀y∈fo xs kb,y∈xs∨(y.1,y.2.1)=kb:=by
   unfold fo
   cases e:atKey xs kb.1 with
   |none=>
    rw[storedH_new e]
    refine⟨fun y hy=>?_,?_,fun y hy=>?_⟩
    ·rcases List.mem_append.mp hy with hy|hy
     ·exact h y hy
     ·rw[List.mem_singleton.mp hy]
    ·unfold pe
     rw[if_neg ((nI xs kb.1).mp e),List.map_append]
     rfl
    ·rcases List.mem_append.mp hy with hy|hy
     ·exact .inl hy
     ·rw[List.mem_singleton.mp hy];exact .inr rfl
   |some p=>
    rw[storedH_old e]
    have same:xs.map (putAt kb.1 (.bool true))=xs:=by
     conv=>rhs;rw[←List.map_id xs]
     refine List.map_congr_left fun x hx=>?_
     unfold putAt
     split
     ·have:=h x hx
      obtain⟨x1,x2,x3⟩:=x
      simp only at this
      subst this
      rfl
     ·rfl
    rw[same]
    refine⟨h,?_,fun y hy=>.inl hy⟩
    unfold pe
    rw[if_pos (Classical.byContradiction fun z=>by rw[(nI xs kb.1).mpr z]at e;cases e)]
  obtain⟨k1,k2,k3⟩:=key
  obtain⟨i1,i2,i3⟩:=qJ kbs (fo xs kb) k1
  refine⟨i1,by rw[List.foldl_cons,i2,k2];rfl,fun y hy=>?_⟩
  rcases i3 y hy with z|z
  ·rcases k3 y z with z|z
   ·exact .inl z
   ·exact .inr (by rw[z];exact .head _)
  ·exact .inr (.tail _ z)
section
variable {X:Cx}{pins:List (Addr×Obj)}{τ:L2.St}{H:Hp}{s:Shared}
theorem Cc(I:Inv X pins τ H s){b:Addr}{ks:List Int}(h:SqT X.K H b (ks.map V.int)):IsTupleKey (intKind X.prog X.w) s.heap ks b:=by
 obtain⟨its,r,o,e,c,n,d⟩:=tup_is I h
 refine⟨o,_,n,e,c,d,?_⟩
 have key:∀(ks:List Int)(its:List Value),Vals (ks.map V.int) its→ItemsAre (intKind X.prog X.w) ks its:=by
  intro ks
  induction ks with
  |nil=>intro its r;cases r;exact .nil
  |cons k ks ih=>
   intro its r
   cases r with
   |cons r1 r2=>
    obtain⟨t,rfl⟩:=r1
    exact .cons (by simp[intKind,Value.isInt]) (ih _ r2)
 exact key ks its r
theorem zb(I:Inv X pins τ H s){p b:Addr}(h:SqT X.K H p [.ref b,.bl true]):kg s.heap p b:=by
 obtain⟨its,r,o,e,c,n,d⟩:=tup_is I h
 obtain⟨u,w',rfl,r1,r2⟩:=vals2 r
 cases r1;cases r2
 exact⟨o,n,e,c,d⟩
theorem Ab (hc:X.calm=true) (hu:X.A.units+20<cLine):mz X (.type "list") (.type "dict") (fun xs H Q=>∃l vs,∃kbs:List (List Int×Addr),xs=[.ref l]∧SqL X.K H l vs∧kbs.length≤10000∧vs.length=kbs.length ∧
  (∀(i:Nat)(v:V)(kb:List Int×Addr),vs[i]? = some v→kbs[i]? = some kb→∃p,v=.ref p∧SqT X.K H p [.ref kb.2,.bl true]∧SqT X.K H kb.2 (kb.1.map V.int)) ∧
  ∀(D:Addr)(ys:List (List Int×Addr)),H D=none→ys.map Prod.fst=sE (kbs.map (·.1))→(∀y∈ys,y∈kbs)→Q (.ref D) (upd H D (.lst (ys.map fun y=>.ref y.2)))):=by
 intro pins s σ H xs us Q I r h
 obtain⟨l,vs,kbs,rfl,hl,h63,hlen,hpr,q⟩:=h
 obtain⟨u,rfl,ru⟩:=vals1 r
 cases ru
 obtain⟨its,rv,pl,hz⟩:=I.list hl
 have hh:=I.ok.hd hc
 have lits:its.length=kbs.length:=by rw[←rv.length];exact hlen
 have il:s.heap.IsList l its.toArray:=pl.isList
 have hdn:∀o,s.heap.get? l=some o→o.dict=none:=fun o e=>by
  obtain⟨o',n',e',c',d',_⟩:=pl
  rw[e]at e';cases e';exact d'
 refine rT (kbs:=kbs) hh (by omega) il hdn (by simp[lits]) (by simp[lits];exact h63) (fun i v hv=>?_) fun h1 tk1 hD k1=>?_
 ·have hv':its[i]? = some v:=by simpa using hv
  obtain⟨x,hx,rx⟩:=ez rv hv'
  have hi:i<kbs.length:=by rw[←lits];exact(List.getElem?_eq_some_iff.mp hv').1
  obtain⟨p,rfl,hp,hb⟩:=hpr i x kbs[i] hx (List.getElem?_eq_getElem hi)
  cases rx
  exact⟨p,kbs[i],rfl,List.getElem?_eq_getElem hi,zb I hp,Cc I hb⟩
 obtain⟨o,es,ep,ho,hcd,hdd,hes,his,hn⟩:=hD
 obtain⟨a1,a2,a3⟩:=qJ kbs [] (fun x hx=>by simp at hx)
 have hsz:es.size=(kbs.foldl fo []).length:=size_of_entries hes
 have hlt:=my kbs []
 have big:=I.big
 have big1:(s.heap.objs.size==sysModules)=false:=by
  rw[Bool.eq_false_iff]
  intro z
  exact absurd big (by rw[eq_of_beq z];exact Nat.lt_irrefl _)
 refine PySem.W.kdl_call (s:={ s with heap:=h1,toks:=tk1 }) (yB (d:=s.heap.objs.size) (es:=es) (ep:=ep) big1) hh ⟨o,ho,hcd,hdd⟩ (by rw[sizeLine_eq,hsz];simp at hlt;omega) fun h' tk acc c k2 hD' hacc=>?_
 have kk:∀b o,s.heap.get? b=some o→h'.get? b=some o:=fun b o z=>k2 b o (k1 b o z)
 have I1:Inv X pins σ H { s with heap:=h1,toks:=tk1 }:=I.kept k1
 have hacc':acc.toList=((kbs.foldl fo []).map fun y=>(y.1,y.2.1)).map fun y=>Value.ref y.2:=by
  apply List.ext_getElem?
  intro i
  rw[Array.getElem?_toList,List.map_map,List.getElem?_map]
  rcases Nat.lt_or_ge i es.size with hi|hi
  ·have hi':i<acc.size:=by rw[hacc.1];exact hi
   obtain⟨e,he,ev⟩:=hacc.2 i _ (Array.getElem?_eq_getElem hi')
   rw[Array.getElem?_eq_getElem hi',ev]
   rw[entry_at hes i]at he
   cases hx:(kbs.foldl fo [])[i]? with
   |none=>rw[hx]at he;cases he
   |some x=>
    rw[hx]at he
    have e':e=entryOfKey (TKd X.prog X.w) x:=(Option.some.inj he).symm
    rw[e'];rfl
  ·rw[Array.getElem?_eq_none (by rw[hacc.1];exact hi),List.getElem?_eq_none (by rw[←hsz];exact hi)]
   rfl
 have vals:∀(L:List (List Int×Addr)),Vals (L.map fun y=>V.ref y.2) (L.map fun y=>Value.ref y.2):=by
  intro L
  induction L with
  |nil=>exact .nil
  |cons y L ih=>exact .cons rfl ih
 refine⟨.ref h1.objs.size,upd H h1.objs.size (.lst (((kbs.foldl fo []).map fun y=>(y.1,y.2.1)).map fun y=>V.ref y.2)),?_,rfl,q _ ((kbs.foldl fo []).map fun y=>(y.1,y.2.1)) (I1.hok.fresh (Nat.le_refl _)) ?_ fun y hy=>?_⟩
 ·refine I1.laid (t':=tk) (o:=.lst _) k2 (Nat.le_refl _) ⟨by rw[List.length_map,List.length_map,sizeLine_eq];simp at hlt;omega,acc.toList,c,by rw[hacc'];exact vals _,?_⟩
  simpa using hD'
 ·rw[List.map_map]
  exact a2
 ·obtain⟨x,hx,rfl⟩:=List.mem_map.mp hy
  rcases a3 x hx with z|z
  ·simp at z
  ·exact z
end
def tF:PV→Option (List Int)
 |.tup [.tup xs,.bl true]=>fg xs
 |_=>none
def kf:List PV→Option (List (List Int))
 |[]=>some []
 |p::ps=>match tF p,kf ps with
  |some k,some ks=>some (k::ks)
  |_,_=>none
def pKeys:PV→Res PV
 |.lst ps=>match kf ps with
  |some kss=>if kss.length≤10000 then .ok (.lst ((sE kss).map fun ks=>.tup (ks.map PV.int))) else .stuck
  |none=>.stuck
 |_=>.stuck
theorem uW{p:PV}{k:List Int}(h:tF p=some k):p=.tup [.tup (k.map PV.int),.bl true]:=by
 unfold tF at h
 split at h
 ·rw[ff h]
 ·cases h
theorem mh:∀{ps:List PV}{ks:List (List Int)},kf ps=some ks→ps=ks.map fun k=>.tup [.tup (k.map PV.int),.bl true]
 |[],ks,h=>by cases h;rfl
 |p::ps,ks,h=>by
  unfold kf at h
  split at h
  ·rename_i k ks' h1 h2
   cases h
   rw[uW h1,mh h2];rfl
  ·cases h
theorem mf:∀(ks:List (List Int)),kf (ks.map fun k=>.tup [.tup (k.map PV.int),.bl true])=some ks
 |[]=>rfl
 |k::ks=>by
  rw[List.map_cons]
  unfold kf
  rw[mf ks]
  have:tF (.tup [.tup (k.map PV.int),.bl true])=some k:=by
   show fg (k.map PV.int)=some k
   exact fe k
  rw[this]
theorem ze{ks:List (List Int)}(h:ks.length≤10000):pKeys (.lst (ks.map fun k=>.tup [.tup (k.map PV.int),.bl true]))=.ok (.lst ((sE ks).map fun ks=>.tup (ks.map PV.int))):=by
 unfold pKeys
 dsimp only
 rw[mf]
 exact if_pos h
section
variable {X:Cx}{H0 Hs0:Hp}{a:Expr}{da:DE}{p p2 pos pos2:Pos}
theorem pS{K:PySem.W.Frag}{H:Hp}:∀{vs:List V}{ks:List Int},Reps K H vs (ks.map PV.int)→vs=ks.map V.int
 |_,[],r=>r.nil_inv
 |_,k::ks,r=>by
  obtain⟨v,ws,rfl,r1,r2⟩:=r.cons_inv
  rw[r1.int_inv,pS r2];rfl
theorem yA{K:PySem.W.Frag}{H:Hp}{v:V}{k:List Int}(r:Rep K H v (.tup [.tup (k.map PV.int),.bl true])):∃p b,v=.ref p∧SqT K H p [.ref b,.bl true]∧SqT K H b (k.map V.int)∧Rep K H (.ref b) (.tup (k.map PV.int)):=by
 obtain⟨p,xs,rfl,ht,rs⟩:=r.tup_inv
 obtain⟨v1,v2,rfl,r1,r2⟩:=rs.two_inv
 cases r2.bl_inv
 obtain⟨b,ys,rfl,hb,rb⟩:=id r1.tup_inv
 have:=pS rb
 subst this
 exact⟨p,b,rfl,ht,hb,r1⟩
theorem m9{K:PySem.W.Frag}{H:Hp}:∀{vs:List V}{ks:List (List Int)},Reps K H vs (ks.map fun k=>.tup [.tup (k.map PV.int),.bl true]) →
  ∃kbs:List (List Int×Addr),kbs.map (·.1)=ks∧vs.length=kbs.length∧(∀(i:Nat)(v:V)(kb:List Int×Addr),vs[i]? = some v→kbs[i]? = some kb→∃p,v=.ref p∧SqT K H p [.ref kb.2,.bl true]∧SqT K H kb.2 (kb.1.map V.int))∧∀kb∈kbs,Rep K H (.ref kb.2) (.tup (kb.1.map PV.int))
 |_,[],r=>by rw[r.nil_inv];exact⟨[],rfl,rfl,fun i v kb h=>by simp at h,fun kb h=>by simp at h⟩
 |_,k::ks,r=>by
  obtain⟨v,ws,rfl,r1,r2⟩:=r.cons_inv
  obtain⟨kbs,e1,e2,e3,e4⟩:=m9 r2
  obtain⟨p,b,rfl,t1,t2,t3⟩:=yA r1
  refine⟨(k,b)::kbs,by rw[List.map_cons,e1],by simp[e2],fun i v kb h1 h2=>?_,fun kb h=>?_⟩
  ·cases i with
   |zero=>cases h1;cases h2;exact⟨p,rfl,t1,t2⟩
   |succ j=>exact e3 j v kb (by simpa using h1) (by simpa using h2)
  ·rcases List.mem_cons.mp h with rfl|h
   ·exact t3
   ·exact e4 kb h
theorem Bk (hc:X.calm=true) (hu:X.A.units+20<cLine) (ha:QE X H0 Hs0 a da) (hg1:Gl X "list") (hm1:X.mg "list" = none) (hg2:Gl X "dict") (hm2:X.mg "dict" = none)
  (he:starEach [a] X.env=[(false,eval a X.env)]) (he2:starEach [.Call (.Name "dict" p2) [a] [] pos2] X.env=[(false,eval (.Call (.Name "dict" p2) [a] [] pos2) X.env)]):
  QE X H0 Hs0 (.Call (.Name "list" p) [.Call (.Name "dict" p2) [a] [] pos2] [] pos) (e1 pKeys da):=by
 refine PE.imp (og (.ty _) (.ty _) (Ab hc hu) hg1 hm1 (by decide +kernel) hg2 hm2 (by decide +kernel) (cJ ha fD he) (by decide) (by decide) (by decide) (by decide) he rfl he2) fun τ H Q h=>?_
 refine RE.mono (one h) fun x H1 ⟨Hs,q,i,r,h1⟩=>?_
 unfold pKeys at h1
 split at h1
 ·rename_i ps
  split at h1
  ·rename_i kss hks
   split at h1
   ·rename_i h63
    obtain⟨ad,vs,rfl,hl,rs⟩:=r.lst_inv
    have eps:=mh hks
    subst eps
    obtain⟨kbs,e1,e2,e3,e4⟩:=m9 rs
    have lk:kbs.length=kss.length:=by rw[←e1,List.length_map]
    refine⟨ad,vs,kbs,rfl,SqL.of (i _ _ hl),by omega,e2,fun j v kb h2 h3=>?_,fun D ys hD hys hin=>?_⟩
    ·obtain⟨p,z1,z2,z3⟩:=e3 j v kb h2 h3
     exact⟨p,z1,bL i z2,bL i z3⟩
    ·rw[e1]at hys
     refine h1 _ _ _ (.new i hD) (.lst aC (Reps.mono (bM (i.free hD)) ?_))
     rw[←hys]
     have all:∀(ys:List (List Int×Addr)),(∀y∈ys,y∈kbs)→Reps X.K Hs (ys.map fun y=>V.ref y.2) ((ys.map Prod.fst).map fun ks=>PV.tup (ks.map PV.int)):=by
      intro ys
      induction ys with
      |nil=>intro _;exact .nil
      |cons y ys ih=>intro hy;exact .cons (e4 y (hy y (.head _))) (ih fun z hz=>hy z (.tail _ hz))
     exact all ys hin
   ·exact h1.elim
  ·exact h1.elim
 ·exact h1.elim
theorem CW (ha:XE X H0 Hs0 a da) (hu:X.A.units+20<cLine) (hm1:X.mg "list" = none) (hm2:X.mg "dict" = none) (hc:X.calm=true:=by rfl) (hg1:Gl X "list":=by rfl) (hg2:Gl X "dict":=by rfl) (h1:noStar a=true:=by rfl):
  XE X H0 Hs0 (.Call (.Name "list" p) [.Call (.Name "dict" p2) [a] [] pos2] [] pos) (e1 pKeys da):=⟨Bk hc hu ha.h hg1 hm1 hg2 hm2 (aB h1) (aB rfl)⟩
end
end G
namespace G
open PySem PySem.Spec PyProof.Rows L2 GS HM
def q9(i j:Nat)(da:DE):DS:=fun σ=>match σ[i]? with
 |some (some (.own xs))=>match da (σ.set i (some (.sh (.lst xs)))) with
  |.ok (.int n)=>.ok (.next (σ.set j (some (.sh (.int n)))))
  |_=>.stuck
 |_=>.stuck
section
variable {X:Cx}{H0 Hs0:Hp}{a:Expr}{da:DE}{pos pos':Pos}{x:Str}
theorem Bc(i:Nat){j:Nat}(hN:X.N.Nodup)(hj:X.N[j]? = some x)(hx:Loc X.env.scope x)(ha:QE X H0 Hs0 a da)(hs:swapsWith a (some (.Name x pos')) pos.line X.env=pure false)(hf:X.fn x=true∨X.env.scope.names.lookup x=some .local):
  QS X H0 Hs0 (.Assign [.Name x pos'] a pos) (q9 i j da):=PS.imp (ri hN hj hx ha hs hf) fun D τ H ⟨Hs,σ,S,h⟩=>by
 unfold q9 at h
 split at h
 ·rename_i xs e
  obtain⟨Hs',e',S'⟩:=S.share e
  refine⟨Hs',_,S',?_⟩
  generalize da (σ.set i (some (.sh (.lst xs))))=r at h
  split at h
  ·rename_i n
   intro v Hs1 H1 g r1
   cases r1.int_inv
   exact h Hs H1 _ (bc.refl _) ((S.grow ⟨bc.refl _,S.g.i.trans g.h,g.h,fun _ _ z=>z⟩).set j (.int n))
  ·exact h.elim
 ·exact h.elim
theorem EM(i j:Nat)(ha:XE X H0 Hs0 a da)(hN:X.N.Nodup:=by assumption)(hj:X.N[j]? = some x:=by rfl)(hx:Loc X.env.scope x:=by first|exact Or.inl rfl|exact Or.inr rfl)(hs:j0 a=true:=by rfl)
  (hf:X.fn x=true∨X.env.scope.names.lookup x=some .local:=by first|exact Or.inl rfl|exact Or.inr rfl):XS X H0 Hs0 (.Assign [.Name x pos'] a pos) (q9 i j da):=⟨Bc i hN hj hx ha.h (ic hs) hf⟩
theorem AW{i j:Nat}{σ:PSt}{xs:List PV}{n:Int}(h:σ[i]? = some (some (.own xs)))(hd:da (σ.set i (some (.sh (.lst xs))))=.ok (.int n)):q9 i j da σ=.ok (.next (σ.set j (some (.sh (.int n))))):=by
 unfold q9;rw[h];simp only[hd]
end
end G
namespace HM
theorem dz:∀(L:List (Int×Int)),L≠[]→(∀l∈L,0<l.1)→∃m∈L,∀l∈L,m.2*l.1≤l.2*m.1
 |[],h,_=>absurd rfl h
 |[p],_,_=>⟨p,.head _,fun l hl=>by rw[List.mem_singleton.mp hl];exact Int.le_refl _⟩
 |p::q::r,_,hp=>by
  obtain⟨m,hm,hle⟩:=dz (q::r) (by simp) (fun l hl=>hp l (.tail _ hl))
  have pp:=hp p (.head _)
  have mp:=hp m (.tail _ hm)
  rcases Int.le_total (p.2*m.1) (m.2*p.1) with k|k
  ·refine⟨p,.head _,fun l hl=>?_⟩
   rcases List.mem_cons.mp hl with rfl|hl
   ·exact Int.le_refl _
   ·have lp:=hp l (.tail _ hl)
    have h1:=Int.mul_le_mul_of_nonneg_right k (Int.le_of_lt lp)
    have h2:=Int.mul_le_mul_of_nonneg_right (hle l hl) (Int.le_of_lt pp)
    have e1:m.2*p.1*l.1=m.2*l.1*p.1:=by grind
    have e2:m.1*(p.2*l.1)=p.2*m.1*l.1:=by grind
    have e3:m.1*(l.2*p.1)=l.2*m.1*p.1:=by grind
    exact Int.le_of_mul_le_mul_left (a:=m.1) (by omega) mp
  ·refine⟨m,.tail _ hm,fun l hl=>?_⟩
   rcases List.mem_cons.mp hl with rfl|hl
   ·exact k
   ·exact hle l hl
theorem nr(L:List (Int×Int)):(∃X W:Int,0<W∧∀l∈L,l.1*X<l.2*W)∨(∃c,(0,c)∈L∧c≤0)∨∃a c a' c':Int,(a,c)∈L∧(a',c')∈L∧0<a∧a'<0∧-a'*c+a*c'≤0:=by
 by_cases hz:∃c,(0,c)∈L∧c≤0
 ·exact .inr (.inl hz)
 have zero:∀c,(0,c)∈L→0<c:=fun c hc=>by
  rcases Int.lt_or_le 0 c with k|k
  ·exact k
  ·exact absurd ⟨c,hc,k⟩ hz
 let U:=L.filter fun l=>decide (0<l.1)
 let D:=(L.filter fun l=>decide (l.1<0)).map fun l=>(-l.1,l.2)
 have hU:∀l∈U,l∈L∧0<l.1:=fun l hl=>by
  rw[List.mem_filter]at hl;exact⟨hl.1,of_decide_eq_true hl.2⟩
 have hD:∀l∈D,(-l.1,l.2)∈L∧0<l.1:=fun l hl=>by
  obtain⟨m,hm,rfl⟩:=List.mem_map.mp hl
  rw[List.mem_filter]at hm
  have:=of_decide_eq_true hm.2
  simp only[Int.neg_neg]
  exact⟨hm.1,by omega⟩
 have split:∀l∈L,(l.1=0∧0<l.2)∨l∈U∨(-l.1,l.2)∈D:=fun l hl=>by
  rcases Int.lt_trichotomy l.1 0 with k|k|k
  ·exact .inr (.inr (List.mem_map.mpr ⟨l,List.mem_filter.mpr ⟨hl,decide_eq_true k⟩,rfl⟩))
  ·exact .inl ⟨k,zero l.2 (by rw[←k];exact hl)⟩
  ·exact .inr (.inl (List.mem_filter.mpr ⟨hl,decide_eq_true k⟩))
 by_cases hUn:U=[]
 ·by_cases hDn:D=[]
  ·refine .inl ⟨0,1,by decide,fun l hl=>?_⟩
   rcases split l hl with ⟨h1,h2⟩|h|h
   ·rw[Int.mul_zero,Int.mul_one];exact h2
   ·rw[hUn]at h;simp at h
   ·rw[hDn]at h;simp at h
  ·obtain⟨m,hm,hle⟩:=dz D hDn (fun l hl=>(hD l hl).2)
   have mp:=(hD m hm).2
   refine .inl ⟨1-m.2,m.1,mp,fun l hl=>?_⟩
   rcases split l hl with ⟨h1,h2⟩|h|h
   ·rw[h1,Int.zero_mul];exact Int.mul_pos h2 mp
   ·rw[hUn]at h;simp at h
   ·have k:=hle _ h
    have lp:=(hD _ h).2
    simp only at k lp
    have e:l.1*(1-m.2)=l.1+m.2 * -l.1:=by grind
    omega
 ·by_cases hDn:D=[]
  ·obtain⟨m,hm,hle⟩:=dz U hUn (fun l hl=>(hU l hl).2)
   have mp:=(hU m hm).2
   refine .inl ⟨m.2-1,m.1,mp,fun l hl=>?_⟩
   rcases split l hl with ⟨h1,h2⟩|h|h
   ·rw[h1,Int.zero_mul];exact Int.mul_pos h2 mp
   ·have k:=hle _ h
    have lp:=(hU _ h).2
    have e:l.1*(m.2-1)=m.2*l.1-l.1:=by grind
    omega
   ·rw[hDn]at h;simp at h
  ·obtain⟨m,hm,hle⟩:=dz U hUn (fun l hl=>(hU l hl).2)
   obtain⟨n,hn,hln⟩:=dz D hDn (fun l hl=>(hD l hl).2)
   have mp:=(hU m hm).2
   have np:=(hD n hn).2
   rcases Int.lt_or_le 0 (n.1*m.2+m.1*n.2) with k|k
   ·refine .inl ⟨m.2*n.1-n.2*m.1,2*(m.1*n.1),by have:=Int.mul_pos mp np;omega,fun l hl=>?_⟩
    rcases split l hl with ⟨h1,h2⟩|h|h
    ·rw[h1,Int.zero_mul];exact Int.mul_pos h2 (by have:=Int.mul_pos mp np;omega)
    ·have k1:=hle _ h
     have lp:=(hU _ h).2
     have e1:l.1*(m.2*n.1-n.2*m.1)=2*(n.1*(m.2*l.1))-l.1*(n.1*m.2+m.1*n.2):=by grind
     have e2:l.2*(2*(m.1*n.1))=2*(n.1*(l.2*m.1)):=by grind
     have p1:=Int.mul_pos lp k
     have p2:=Int.mul_le_mul_of_nonneg_left k1 (Int.le_of_lt np)
     omega
    ·have k1:=hln _ h
     have lp:=(hD _ h).2
     simp only at k1 lp
     have e1:l.1*(m.2*n.1-n.2*m.1)=2*(m.1*(n.2 * -l.1))-(-l.1)*(n.1*m.2+m.1*n.2):=by grind
     have e2:l.2*(2*(m.1*n.1))=2*(m.1*(l.2*n.1)):=by grind
     have p1:=Int.mul_pos lp k
     have p2:=Int.mul_le_mul_of_nonneg_left k1 (Int.le_of_lt mp)
     omega
   ·refine .inr (.inr ⟨m.1,m.2,-n.1,n.2,(hU m hm).1,(hD n hn).1,mp,by omega,by simp only[Int.neg_neg];omega⟩)
inductive Comb (L:List (Int×Int×Int)):Int→Int→Int→Prop where
 |mem {a b c:Int}:(a,b,c)∈L→Comb L a b c
 |add {a b c a' b' c' k k':Int}:0<k→0<k'→Comb L a b c→Comb L a' b' c'→Comb L (k*a+k'*a') (k*b+k'*b') (k*c+k'*c')
theorem qr(L:List (Int×Int×Int)):(∃X Y W:Int,0<W∧∀l∈L,l.1*X+l.2.1*Y<l.2.2*W)∨∃c,c≤0∧Comb L 0 0 c:=by
 let Z:=(L.filter fun l=>decide (l.2.1=0)).map fun l=>(l.1,l.2.2)
 let P:=L.flatMap fun p=>if 0<p.2.1 then (L.filter fun q=>decide (q.2.1<0)).map fun q=>(-q.2.1*p.1+p.2.1*q.1,-q.2.1*p.2.2+p.2.1*q.2.2) else []
 have hZ:∀l∈Z,Comb L l.1 0 l.2:=fun l hl=>by
  obtain⟨m,hm,rfl⟩:=List.mem_map.mp hl
  rw[List.mem_filter]at hm
  have z:=of_decide_eq_true hm.2
  obtain⟨a,b,c⟩:=m
  simp only at z
  subst z
  exact .mem hm.1
 have hP:∀l∈P,Comb L l.1 0 l.2:=fun l hl=>by
  obtain⟨p,hp,hl⟩:=List.mem_flatMap.mp hl
  split at hl
  ·rename_i hpos
   obtain⟨q,hq,rfl⟩:=List.mem_map.mp hl
   rw[List.mem_filter]at hq
   have hneg:=of_decide_eq_true hq.2
   have c:=Comb.add (k:=-q.2.1) (k':=p.2.1) (by omega) hpos (Comb.mem hp) (Comb.mem hq.1)
   have e:-q.2.1*p.2.1+p.2.1*q.2.1=0:=by grind
   rw[e]at c
   exact c
  ·simp at hl
 rcases nr (Z++P) with ⟨X,W,hW,sol⟩|⟨c,hc,h0⟩|⟨a,c,a',c',h1,h2,h3,h4,h5⟩
 ·rcases nr (L.map fun l=>(l.2.1,l.2.2*W-l.1*X)) with ⟨Y,V,hV,sol2⟩|⟨c,hc,h0⟩|⟨a,c,a',c',h1,h2,h3,h4,h5⟩
  ·refine .inl ⟨X*V,Y,W*V,Int.mul_pos hW hV,fun l hl=>?_⟩
   have:=sol2 _ (List.mem_map_of_mem (f:=fun l:Int×Int×Int=>(l.2.1,l.2.2*W-l.1*X)) hl)
   simp only at this
   have e1:l.1*(X*V)=l.1*X*V:=by grind
   have e2:l.2.2*(W*V)=(l.2.2*W-l.1*X)*V+l.1*X*V:=by grind
   omega
  ·exfalso
   obtain⟨l,hl,e⟩:=List.mem_map.mp hc
   have e':=(Prod.mk.injEq ..).mp e
   have:=sol (l.1,l.2.2) (List.mem_append_left _ (List.mem_map.mpr ⟨l,List.mem_filter.mpr ⟨hl,decide_eq_true e'.1⟩,rfl⟩))
   simp only at this
   omega
  ·exfalso
   obtain⟨p,hp,e⟩:=List.mem_map.mp h1
   obtain⟨q,hq,e2⟩:=List.mem_map.mp h2
   have z1:=(Prod.mk.injEq ..).mp e
   have z2:=(Prod.mk.injEq ..).mp e2
   have mem:(-q.2.1*p.1+p.2.1*q.1,-q.2.1*p.2.2+p.2.1*q.2.2)∈Z++P:=List.mem_append_right _ (List.mem_flatMap.mpr ⟨p,hp,by
    rw[if_pos (by omega)]
    exact List.mem_map.mpr ⟨q,List.mem_filter.mpr ⟨hq,decide_eq_true (by omega)⟩,rfl⟩⟩)
   have:=sol _ mem
   simp only at this
   rw[←z1.1,←z1.2,←z2.1,←z2.2]at h5
   have e3:-q.2.1*(p.2.2*W-p.1*X)+p.2.1*(q.2.2*W-q.1*X)=(-q.2.1*p.2.2+p.2.1*q.2.2)*W-(-q.2.1*p.1+p.2.1*q.1)*X:=by grind
   omega
 ·refine .inr ⟨c,h0,?_⟩
  rcases List.mem_append.mp hc with h|h
  ·exact hZ _ h
  ·exact hP _ h
 ·have g:∀l∈Z++P,Comb L l.1 0 l.2:=fun l hl=>(List.mem_append.mp hl).elim (hZ l) (hP l)
  have cc:=Comb.add (k:=-a') (k':=a) (by omega) h3 (g _ h1) (g _ h2)
  simp only at cc
  have e1:-a'*a+a*a'=0:=by grind
  have e2:-a'*(0:Int)+a*0=0:=by grind
  rw[e1,e2]at cc
  exact .inr ⟨_,h5,cc⟩
end HM
namespace G
open PySem PySem.Spec PyProof.Rows L2 GS HM
section
variable {X:Cx}{pins:List (Addr×Obj)}{H0 Hs0:Hp}{tg elt iter cd:Expr}{scope:Scope}{pos:Pos}{cl:List (Str×Addr)}{N:List Str}{k:Nat}{ix:List Nat}{g:DG}{tc:DT}{de:DE}{d:DI}{i:Nat}{x:Str}{pos' spos:Pos}
def jQ(i:Nat)(d:DI)(g:DG)(tc:DT)(de:DE)(k:Nat)(ix:List Nat):DS:=fun σ=>(nC d g tc de k ix σ).bind fun qs=>.ok (.next (σ.set i (some (.sh (.lst qs)))))
theorem Aa{D:Ends}{Hs H:Hp}{f:List PV→Fl}{σ:PSt}(h:gy X H0 Hs0 D Hs H ((nC d g tc de k ix σ).bind fun qs=>.ok (f qs))):(∃c,d σ=.err c∧bI X H0 Hs0 c)∨∃ps,d σ=.ok ps∧∃qs,dS (df g tc de (inn k ix σ)) ps=.ok qs∧ps.length≤10000000∧gy X H0 Hs0 D Hs H (.ok (f qs)):=by
 unfold nC at h
 cases e:d σ with
 |err c=>rw[e]at h;exact .inl ⟨c,rfl,h⟩
 |stuck=>rw[e]at h;exact h.elim
 |ok ps=>
  rw[e]at h
  refine .inr ⟨ps,rfl,?_⟩
  cases em:dS (df g tc de (inn k ix σ)) ps with
  |ok qs=>
   simp only[Res.bind_ok,em]at h
   by_cases hl:ps.length≤10000000
   ·rw[if_pos hl]at h
    exact⟨qs,rfl,hl,h⟩
   ·rw[if_neg hl]at h
    exact h.elim
  |err c=>simp only[Res.bind_ok,em]at h;exact h.elim
  |stuck=>simp only[Res.bind_ok,em]at h;exact h.elim
theorem vK(B:BlkOkI X tg elt cd scope cl N k ix g tc de)(hi:QI X H0 Hs0 tg iter d)(hs:∀x,foldedSetIterable iter X.env x=pure x)
  (hN:X.N.Nodup) (hiN:X.N[i]? = some x) (hx:Loc X.env.scope x) (hf:X.fn x=true∨X.env.scope.names.lookup x=some .local)
  (hsw:swapsWith (.ListComp elt [⟨tg,iter,[cd],0⟩] scope pos) (some (.Name x pos')) spos.line X.env=pure true):
  QS X H0 Hs0 (.Assign [.Name x pos'] (.ListComp elt [⟨tg,iter,[cd],0⟩] scope pos) spos) (jQ i d g tc de k ix):=by
 intro pins s τ H D I ⟨Hs,σ,S,h⟩
 have h0:wpAny (model X.prog X.w) X.A (eval iter X.env) (fun v s1=>wpAny (model X.prog X.w) X.A (pyIter v) (PIE X pins τ tg fun J H2=>∃Hs2 ps qs,Grow Hs H Hs2 H2∧JOk X.K J Hs2 ps∧dS (df g tc de (inn k ix σ)) ps=.ok qs∧ps.length≤10000000 ∧
   gy X H0 Hs0 D Hs H (.ok (.next (σ.set i (some (.sh (.lst qs))))))) X.xe s1) X.xe s:=by
  refine hi pins s τ H _ I ⟨Hs,σ,S,?_⟩
  rcases Aa h with ⟨c,e,ec⟩|⟨ps,e,qs,em,hl,h1⟩
  ·rw[e];exact ec
  ·rw[e]
   exact fun J Hs2 H2 g2 j2=>⟨Hs2,ps,qs,g2,j2,em,hl,h1⟩
 rw[exec_Assign_Name_used _ _ _ _ hsw]
 refine wpAny_bind (wpAny_standAt (wpAny_bind ?_))
 show wpAny _ X.A (do let _ ←comprehension (.ListComp elt [⟨tg,iter,[cd],0⟩] scope pos) scope X.env _ (newList []) false (eval iter X.env) (some (assign (.Name x pos') X.env))) _ _ s
 refine wpAny_bind (wpAny_mono (wpAny_comprehension_free (use:=some (assign (.Name x pos') X.env)) (Q:=fun _ s'=>SP X pins D .next s') rfl hs (jG B.O.clos) B.O.kind B.O.names
  (wpAny_mono h0 (fun v s1 h1=>wpAny_mono h1 (fun itv s2 h2=>?_) fun _ _ e=>e) fun _ _ e=>e)) (fun _ s' hq=>wpAny_pure (wpAny_pure hq)) fun _ _ e=>e)
 obtain⟨it,fp,tn,J,H2,rfl,I2,T,st,fpok,Hs2,ps,qs,g2,jok,hm,hl,hq⟩:=h2
 refine Eg B I2 (S.grow g2) T st fpok jok hm hl fun s' Hs' H' vs a C m I' S' e' gr h1 h2 h3 h4 h5 h6=>?_
 show wpAny _ X.A (assign (.Name x pos') X.env (.ref a)) _ _ s'
 have h5':=h5
 obtain⟨o,es,ep,ho,hdt,hrest⟩:=h5'
 have I'':=I'.pinned (fp:=[C]) (fun b hb=>by have:b=C:=(by simpa using hb);subst this;exact h6)
  (fun b hb=>by
  have:b=C:=by simpa using hb
  subst this
  exact⟨o,ho,fun v z=>by rw[hdt]at z;cases z⟩)
 refine thn (kC hN hiN hx hf _ s' τ H' (.ref a) (.ref a) (fun τ' H''=>τ'=τ.set i (some (.ref a))∧H''=H') I'' rfl ⟨rfl,rfl⟩) fun _ s'' ⟨τ',H'',I3,e1,e2⟩=>?_
 subst e1 e2
 have hC:=(I3.pin (C,o) (List.mem_append_right _ (List.mem_append_right _ (bQ (by simp) ho)))).1
 have I4:=I3.unpinned
 refine⟨m,⟨o,es,ep,hC,hdt,hrest⟩,fun h' sb=>?_⟩
 have gr':=g2.trans gr
 exact⟨_,_,kK I4 h6 sb,hq (upd Hs' a (.lst vs)) H'' _ (gr'.s.trans (cB h2)) ((S.grow (gr'.lay h1 h2 (g2.h.free h3))).set i (.lst aC (h4.mono (cB h2))))⟩
theorem yi(i:Nat){x:Str}{pos' spos:Pos}{cl:List (Str×Addr)}{N:List Str}{k:Nat}(B:BlkOkI X tg elt cd scope cl N k ix g tc de)(hi:XI X H0 Hs0 tg iter d)(hN:X.N.Nodup:=by assumption)(hiN:X.N[i]? = some x:=by rfl)(hx:Loc X.env.scope x:=by first|exact Or.inl rfl|exact Or.inr rfl)
  (hf:X.fn x=true∨X.env.scope.names.lookup x=some .local:=by first|exact Or.inl rfl|exact Or.inr rfl) (hs:gq iter=true:=by rfl)
  (hsw:swapsWith (.ListComp elt [⟨tg,iter,[cd],0⟩] scope pos) (some (.Name x pos')) spos.line X.env=pure true:=by rfl):
  XS X H0 Hs0 (.Assign [.Name x pos'] (.ListComp elt [⟨tg,iter,[cd],0⟩] scope pos) spos) (jQ i d g tc de k ix):=⟨vK B hi.h (ir hs) hN hiN hx hf hsw⟩
theorem t7{α:Type}{σ:PSt}{u:α→PV}{v:α→Option PV}{xs:List α}(h1:d σ=.ok (xs.map u))(h2:∀x∈xs,df g tc de (inn k ix σ) (u x)=.ok (v x))(h3:xs.length≤10000000):jQ i d g tc de k ix σ=.ok (.next (σ.set i (some (.sh (.lst (xs.filterMap v)))))):=by
 unfold jQ nC
 rw[h1,Res.bind_ok,sY h2]
 simp only[List.length_map,h3,if_true,Res.bind_ok]
end
def jY:PV→PV→Res PV
 |.lst xs,.int n=>match fg xs with
  |some ns=>if n∈ns then .ok (.int (ns.idxOf n:Nat)) else .stuck
  |none=>.stuck
 |_,_=>.stuck
def iw(i:Nat)(db:DE):DE:=fun σ=>match σ[i]? with
 |some (some (.sh (.lst xs)))=>(db σ).bind fun q=>jY (.lst xs) q
 |_=>.stuck
def AZ:V→List V→Hp→VK→Prop:=fun x xs H Q=>∃(l:Addr)(ns:List Int)(n:Int),x=.ref l∧xs=[.int n]∧H l=some (.lst (ns.map V.int))∧n∈ns∧ns.length≤100000000∧Q (.int (ns.idxOf n:Nat)) H
def C8(n:Int):Value→Bool
 |.int m _=>m==n
 |_=>false
section
variable {X:Cx}{H0 Hs0:Hp}{b:Expr}{db:DE}{x:Str}{np apos cpos:Pos}
theorem pD:∀{ns:List Int}{us:List Value},Vals (ns.map V.int) us→us.length=ns.length∧∀(j:Nat)(h:j<us.length)(n:Int),ns[j]? = some n→∃t,us[j]=Value.int n t
 |[],[],.nil=>⟨rfl,fun j h=>by simp at h⟩
 |n::ns,u::us,.cons r t=>by
  obtain⟨h1,h2⟩:=pD t
  refine⟨by simp[h1],fun j h m hm=>?_⟩
  cases j with
  |zero=>
   obtain⟨t,e⟩:=(show ∃t,u=Value.int n t from r)
   simp at hm
   subst hm
   exact⟨t,e⟩
  |succ j=>exact h2 j (by simpa using h) m (by simpa using hm)
theorem wk:MtR X "list.index" AZ:=by
 intro pins s σ H x vs v us Q I rx rv h
 obtain⟨l,ns,n,rfl,rfl,hH,hn,hlen,q⟩:=h
 cases rx
 obtain⟨u,rfl,ru⟩:=rv.one
 obtain⟨t,rfl⟩:=(show ∃t,u=Value.int n t from ru)
 obtain⟨z,its,nn,r,hl,e⟩:=I.lstM hH
 obtain⟨le,all⟩:=pD r
 have hj:ns.idxOf n<ns.length:=List.idxOf_lt_length_of_mem hn
 have item:∀(m:Nat)(hm:m<its.toArray.size),∃t,its.toArray[m]=Value.int (ns[m]'(by rw[List.size_toArray]at hm;omega)) t:=fun m hm=>by
  rw[List.size_toArray]at hm
  obtain⟨t,e⟩:=all m hm _ (List.getElem?_eq_getElem (by omega))
  exact⟨t,by rw[List.getElem_toArray];exact e⟩
 have hj':ns.idxOf n<its.toArray.size:=by rw[List.size_toArray];omega
 refine call_meets PySem.F.slot_list_index ⟨_,e,rfl⟩ PySem.F.entry_list_index (PySem.F.args_list_index_2 _ _) (PySem.SeqAt.list_indexAt l its.toArray nn _ _ (.int n t) (C8 n) (ns.idxOf n) hj' (by omega) ?_ ?_) ⟨e,fun y hy=>?_,?_⟩
 ·obtain⟨t',e'⟩:=item _ hj'
  rw[e']
  show(ns[ns.idxOf n]==n)=true
  rw[List.getElem_idxOf]
  simp
 ·intro m hm hlt
  obtain⟨t',e'⟩:=item m hm
  rw[e']
  show(ns[m]'_==n)=false
  have:=List.not_of_lt_findIdx (p:=(· == n)) (xs:=ns) (i:=m) hlt
  simpa using this
 ·obtain⟨m,hm,e'⟩:=Array.mem_iff_getElem.mp hy
  obtain⟨t',e2⟩:=item m hm
  rw[←e',e2]
  exact PySem.SeqAt.EqAt.int_int _ _ _ _
 ·exact⟨.int _,H,I.tok _,⟨_,rfl⟩,q⟩
theorem iR{K:PySem.W.Frag}{H:Hp}:∀{vs:List V}{ns:List Int},Reps K H vs (ns.map PV.int)→vs=ns.map V.int
 |_,[],.nil=>rfl
 |_,n::ns,.cons r rs=>by cases r.int_inv;rw[iR rs];rfl
theorem vP {i:Nat} (hN:X.N[i]? = some x) (hv:Vis X.env.scope x) (hd:(x==("__debug__":Str))=false) (hcd:(x==("__classdict__":Str))=false) (hb:QE X H0 Hs0 b db)
  (hbase:attributeBase (.Name x np) "index" X.env (eval (.Name x np) X.env)=eval (.Name x np) X.env)
  (hfew:((backTo cpos (starEach [b] X.env)).all (fun x=>!x.1)&&(backToKw cpos (keywordEach [] X.env)).all (fun x=>x.1.isSome)
   && decide (([b]:List Expr).length+([]:List Keyword).length+(if ([]:List Keyword).isEmpty then 0 else 1)<30))=true)
  (hline:(apos.endLine==cpos.line)=true) (hs:starEach [b] X.env=[(false,eval b X.env)]):
  QE X H0 Hs0 (.Call (.Attribute (.Name x np) "index" apos) [b] [] cpos) (iw i db):=by
 intro pins s τ H Q I ⟨Hs,σ,S,h⟩
 unfold iw at h
 split at h
 ·rename_i xs e
  obtain⟨v,e1,r⟩:=S.slot i _ e
  obtain⟨ad,vs,rfl,hl,rs⟩:=Rep.lst_inv r
  refine vZ PySem.F.plainAttrs_list PySem.F.slot_list_index PySem.F.type_list_index wk (i7 hN hv hd hcd) (cJ hb fD hs) hbase hfew hline hs rfl pins s τ H Q I ⟨.ref ad,e1,.inl ⟨rfl,vs,SqL.of (S.g.i _ _ hl)⟩,?_⟩
  refine⟨Hs,σ,S,Ret.mono (Ret.bind h) fun y H2 ⟨Hs2,q,g2,r2,h2⟩=>?_⟩
  unfold jY at h2
  split at h2
  ·rename_i xs' n ex
   cases ex
   split at h2
   ·rename_i ns hn
    split at h2
    ·rename_i hm
     cases r2.int_inv
     have ee:=ff hn
     subst ee
     have ev:=iR rs
     subst ev
     obtain⟨zl,_⟩:=I.hok _ _ (S.g.i _ _ hl)
     rw[List.length_map,sizeLine_eq]at zl
     exact⟨ad,ns,n,rfl,rfl,g2.i _ _ (g2.s _ _ hl),hm,by omega,bA h2 g2.i⟩
    ·exact h2.elim
   ·exact h2.elim
  ·exact h2.elim
 ·exact h.elim
theorem yj (i:Nat) (hb:XE X H0 Hs0 b db) (hN:X.N[i]? = some x:=by rfl) (hv:Vis X.env.scope x:=by first|exact Or.inl rfl|exact Or.inr (Or.inl rfl)|exact Or.inr (Or.inr rfl)) (hd:(x==("__debug__":Str))=false:=by decide) (hcd:(x==("__classdict__":Str))=false:=by decide)
  (hbase:attributeBase (.Name x np) "index" X.env (eval (.Name x np) X.env)=eval (.Name x np) X.env:=by rfl)
  (hfew:((backTo cpos (starEach [b] X.env)).all (fun x=>!x.1)&&(backToKw cpos (keywordEach [] X.env)).all (fun x=>x.1.isSome)
   && decide (([b]:List Expr).length+([]:List Keyword).length+(if ([]:List Keyword).isEmpty then 0 else 1)<30))=true:=by rfl)
  (hline:(apos.endLine==cpos.line)=true:=by rfl) (hst:noStar b=true:=by rfl):
  XE X H0 Hs0 (.Call (.Attribute (.Name x np) "index" apos) [b] [] cpos) (iw i db):=⟨vP hN hv hd hcd hb.h hbase hfew hline (aB hst)⟩
end
end G
namespace Law
open PySem PySem.Spec PyProof.Rows L2 G HM
def top(i:Nat):Stmt:=PySem.Challenge.pw_glide_k17_whole_nothing_shared_is_left_o.main.body.getD i (.Pass ⟨0,0,0,0⟩)
noncomputable def e9:DS:=(ao (sIf (tV (e2 pEq (e2 bU (ae 0) (eC (.int 2))) (eC (.int 0)))) (aJ (eC (.int 1))) aQ)
  (aJ (e2 aS (eC (.int 1)) (e2 bU (e2 bC (ae 0) (eC (.int 2))) (e2 uk (eC (.int 10)) (eC (.int 12)))))))
noncomputable def fk:List PV→Res PV:=bH 1 1 e9
noncomputable def fF:DS:=(av 2 (e2 aS (e2 ay (ae 2) (eC (.int 1009))) (e2 bU (ae 3) (eC (.int 1000003)))))
noncomputable def dN:DS:=(ao (sIf (tV (e2 (cy fun i j=>decide (i<j)) (ae 1) (bj 0))) (aJ (e2 bU (ah 0 (ae 1)) (e2 uk (eC (.int 10)) (eC (.int 60))))) aQ)
  (ao (av 2 (e2 aS (e2 ay (ae 1) (eC (.int 7907))) (eC (.int 3571))))
  (ao (dZ (itE (eSl (ae 0) oNo (oE (eC (.int 3))))) (gN 3) fF)
  (ao (av 2 (e2 bU (ae 2) (eC (.int 2147483647))))
  (aJ (e2 bU (e2 ay (ae 2) (ae 2)) (eC (.int 2147483629))))))))
noncomputable def bZ:List PV→Res PV:=bH 2 4 dN
noncomputable def bx:DS:=(lu 2 (eA cN (aa (e2 a7 (e2 pIx (ah 0 (ae 3)) (eC (.int 1))) (e2 pIx (ah 0 (e2 a7 (ae 3) (eC (.int 1)))) (eC (.int 1)))) (aa (e2 a7 (e2 pIx (ah 0 (e2 a7 (ae 3) (eC (.int 1)))) (eC (.int 0))) (e2 pIx (ah 0 (ae 3)) (eC (.int 0)))) aj))))
noncomputable def bw:DS:=(lu 2 (eA cN (aa (e2 a7 (e2 pIx (ah 1 (e2 a7 (ae 3) (eC (.int 1)))) (eC (.int 1))) (e2 pIx (ah 1 (ae 3)) (eC (.int 1)))) (aa (e2 a7 (e2 pIx (ah 1 (ae 3)) (eC (.int 0))) (e2 pIx (ah 1 (e2 a7 (ae 3) (eC (.int 1)))) (eC (.int 0)))) aj))))
noncomputable def bO:DS:=(ao (lq 2 aj)
  (ao (dZ (itR aD (aa (bj 0) aj)) (gN 3) bx)
  (ao (dZ (itR aD (aa (bj 1) aj)) (gN 3) bw)
  (cV 2 (aJ (ae 2))))))
noncomputable def aW:List PV→Res PV:=bH 2 4 bO
noncomputable def dq:DE:=(e2 aS (e2 ay (ah 0 (eC (.int 0))) (ah 1 (eC (.int 0)))) (e2 ay (ah 0 (eC (.int 1))) (ah 1 (eC (.int 1)))))
noncomputable def dm:DE:=(e2 aS (e2 ay (ah 0 (eC (.int 0))) (ah 1 (eC (.int 0)))) (e2 ay (ah 0 (eC (.int 1))) (ah 1 (eC (.int 1)))))
noncomputable def e8:DS:=(ao (av 4 (eA iU (aa (c6 (itE (ae 1)) (gN 0) dq 1 [3]) aj)))
  (ao (av 5 (eA dY (aa (c6 (itE (ae 0)) (gN 0) dm 1 [3]) aj)))
  (aJ (e2 aS (e2 aS (e2 ay (e2 a7 (ae 4) (ae 5)) (ah 2 (eC (.int 2)))) (e2 ay (ah 2 (eC (.int 0))) (ah 3 (eC (.int 0))))) (e2 ay (ah 2 (eC (.int 1))) (ah 3 (eC (.int 1))))))))
noncomputable def dD:List PV→Res PV:=bH 4 6 e8
noncomputable def cU:DS:=(ao (lu 6 (eA cN (aa (e2 a7 (e2 bU (ae 1) (eC (.int 9))) (eC (.int 2))) (aa (e2 a7 (e2 bU (e2 bC (ae 1) (eC (.int 9))) (eC (.int 9))) (eC (.int 2))) aj))))
  (av 1 (e2 bC (ae 1) (eC (.int 81)))))
noncomputable def cT:DE:=(eA cN (aa (ae 1) (aa (ae 0) aj)))
noncomputable def cS:DE:=(eA cN (aa (e2 a7 (eC (.int 0)) (ae 0)) (aa (ae 1) aj)))
noncomputable def cR:DE:=(eA cN (aa (e2 ay (ae 2) (e2 aS (ae 0) (ae 3))) (aa (e2 ay (ae 2) (e2 aS (ae 1) (ae 4))) aj)))
noncomputable def cQ:DS:=(ao (av 3 (e2 aS (eC (.int 1)) (e2 bU (ae 0) (eC (.int 5)))))
  (ao (av 4 (e2 aS (eC (.int 1)) (e2 bU (e2 bC (ae 0) (eC (.int 5))) (eC (.int 5)))))
  (ao (av 5 (e2 a7 (e2 bU (e2 bC (ae 0) (eC (.int 25))) (eC (.int 9))) (eC (.int 2))))
  (ao (lq 6 (aa (eA cN (aa (eC (.int 0)) (aa (eC (.int 0)) aj))) (aa (eA cN (aa (ae 3) (aa (eC (.int 0)) aj))) (aa (eA cN (aa (ae 5) (aa (ae 4) aj))) aj))))
  (ao (dZ (itR aD (aa (e2 bU (e2 bC (ae 0) (eC (.int 225))) (eC (.int 4))) aj)) (gN 7) cU)
  (ao (sIf (tV (e2 pEq (e2 bU (e2 bC (ae 0) (eC (.int 900))) (eC (.int 2))) (eC (.int 1)))) (cV 6 (gH 6 (itE (ae 6)) (gU [0,1]) cT 2 [])) aQ)
  (ao (sIf (tV (e2 pEq (e2 bU (e2 bC (ae 0) (eC (.int 1800))) (eC (.int 2))) (eC (.int 1)))) (cV 6 (gH 6 (itE (ae 6)) (gU [0,1]) cS 2 [])) aQ)
  (ao (av 8 (e2 a7 (e2 bU (e2 bC (ae 0) (eC (.int 3600))) (eC (.int 61))) (eC (.int 30))))
  (ao (av 9 (e2 a7 (e2 bU (e2 bC (ae 0) (eC (.int 219600))) (eC (.int 61))) (eC (.int 30))))
  (cV 6 (aJ (c6 (itE (ae 6)) (gU [0,1]) cR 2 [2,8,9]))))))))))))
noncomputable def bT:List PV→Res PV:=bH 3 10 cQ
noncomputable def fx:DS:=(ao (av 3 (e2 a7 (e2 ay (ah 1 (eC (.int 0))) (ah 0 (eC (.int 2)))) (e2 ay (ah 0 (eC (.int 0))) (ah 1 (eC (.int 2))))))
  (ao (av 4 (e2 a7 (e2 ay (ah 1 (eC (.int 1))) (ah 0 (eC (.int 2)))) (e2 ay (ah 0 (eC (.int 1))) (ah 1 (eC (.int 2))))))
  (ao (av 5 (e2 ay (ae 3) (e2 a7 (e2 ay (ah 2 (eC (.int 1))) (ah 0 (eC (.int 2)))) (e2 ay (ah 0 (eC (.int 1))) (ah 2 (eC (.int 2)))))))
  (aJ (e2 a7 (ae 5) (e2 ay (ae 4) (e2 a7 (e2 ay (ah 2 (eC (.int 0))) (ah 0 (eC (.int 2)))) (e2 ay (ah 0 (eC (.int 0))) (ah 2 (eC (.int 2)))))))))))
noncomputable def bq:List PV→Res PV:=bH 3 6 fx
noncomputable def aU:DS:=(ao (av 6 (eA cN (aa (e2 aS (e2 ay (e2 pIx (ah 2 (e2 a7 (ae 5) (eC (.int 1)))) (eC (.int 0))) (ae 4)) (ah 3 (eC (.int 0)))) (aa (e2 aS (e2 ay (e2 pIx (ah 2 (e2 a7 (ae 5) (eC (.int 1)))) (eC (.int 1))) (ae 4)) (ah 3 (eC (.int 1)))) (aa (ae 4) aj)))))
  (ao (av 7 (eA cN (aa (e2 aS (e2 ay (e2 pIx (ah 2 (ae 5)) (eC (.int 0))) (ae 4)) (ah 3 (eC (.int 0)))) (aa (e2 aS (e2 ay (e2 pIx (ah 2 (ae 5)) (eC (.int 1))) (ae 4)) (ah 3 (eC (.int 1)))) (aa (ae 4) aj)))))
  (sIf (G.nM (tV (e2 pEq (eA (fun ps=>noErr (bq ps)) (aa (ae 6) (aa (ae 7) (aa (ae 0) aj)))) (eC (.int 0)))) (tV (e2 pEq (eA (fun ps=>noErr (bq ps)) (aa (ae 6) (aa (ae 7) (aa (ae 1) aj)))) (eC (.int 0))))) (aJ (eC (.bl true))) aQ)))
noncomputable def cL:DS:=(ao (av 4 (ah 3 (eC (.int 2))))
  (ao (dZ (itR aD (aa (bj 2) aj)) (gN 5) aU)
  (aJ (eC (.bl false)))))
noncomputable def aV:List PV→Res PV:=bH 4 8 cL
noncomputable def cG:DS:=(ao (av 6 (eA (fun ps=>noErr (bq ps)) (aa (ae 1) (aa (ae 2) (aa (ae 5) aj)))))
  (ao (av 3 (e2 aS (ae 3) (eA ke (aa (e2 (cy fun i j=>decide (j<i)) (ae 6) (eC (.int 0))) aj))))
  (av 4 (e2 aS (ae 4) (eA ke (aa (e2 (cy fun i j=>decide (i<j)) (ae 6) (eC (.int 0))) aj))))))
theorem kc(σ:PSt):cG σ=(ao (av 6 (eA (fun ps=>noErr (bq ps)) (aa (ae 1) (aa (ae 2) (aa (ae 5) aj)))))
  (ao (av 3 (e2 aS (ae 3) (eA ke (aa (e2 (cy fun i j=>decide (j<i)) (ae 6) (eC (.int 0))) aj))))
  (av 4 (e2 aS (ae 4) (eA ke (aa (e2 (cy fun i j=>decide (i<j)) (ae 6) (eC (.int 0))) aj)))))) σ:=rfl
noncomputable def d8:DS:=(ao (av 3 (eC (.int 0)))
  (ao (av 4 (eC (.int 0)))
  (ao (dZ (itE (ae 0)) (gN 5) cG)
  (aJ (eOr (e2 pEq (ae 3) (eC (.int 0))) (e2 pEq (ae 4) (eC (.int 0))))))))
noncomputable def cq:List PV→Res PV:=bH 3 7 d8
noncomputable def bG:DS:=(sIf (tV (eA (fun ps=>noErr (cq ps)) (aa (ae 0) (aa (ah 0 (ae 5)) (aa (ah 0 (ae 4)) aj))))) (sIf (G.eS (tV (eA (fun ps=>noErr (aV ps)) (aa (ah 0 (ae 5)) (aa (ah 0 (ae 4)) (aa (ae 1) (aa (eA cN (aa (eC (.int 0)) (aa (eC (.int 0)) (aa (eC (.int 1)) aj)))) aj))))))) (sIf (G.eS (tV (eA (fun ps=>noErr (aV ps)) (aa (ah 0 (ae 5)) (aa (ah 0 (ae 4)) (aa (ae 2) (aa (ae 3) aj))))))) (aJ (eC (.bl false))) aQ) aQ) aQ)
noncomputable def aY:DS:=(dZ (itR aD (aa (ae 4) aj)) (gN 5) bG)
noncomputable def bV:DS:=(ao (sIf (tV (e2 (cy fun i j=>decide (i<j)) (bj 0) (eC (.int 3)))) (aJ (eC (.bl false))) aQ)
  (ao (dZ (itR aD (aa (bj 0) aj)) (gN 4) aY)
  (aJ (eC (.bl true)))))
noncomputable def aF:List PV→Res PV:=bH 4 6 bV
noncomputable def hJ:DT:=(tV (e2 pNe (ae 1) (eC (.int 0))))
theorem iT(σ:PSt):hJ σ=(tV (e2 pNe (ae 1) (eC (.int 0)))) σ:=rfl
noncomputable def ia:DS:=(ao (av 2 (e2 bU (ae 0) (ae 1)))
  (ao (av 0 (ae 1))
  (av 1 (ae 2))))
theorem mR(σ:PSt):ia σ=(ao (av 2 (e2 bU (ae 0) (ae 1)))
  (ao (av 0 (ae 1))
  (av 1 (ae 2)))) σ:=rfl
noncomputable def iE:DS:=(ao (av 0 (eA xR (aa (ae 0) aj)))
  (ao (av 1 (eA xR (aa (ae 1) aj)))
  (ao (cC hJ ia)
  (aJ (ae 0)))))
noncomputable def c7:List PV→Res PV:=bH 2 3 iE
noncomputable def gf:DS:=(aJ (rR (e1 (jX "int") (ae 0)) (e1 zd (e1 (jX "bool") (ae 0)))))
noncomputable def bS:List PV→Res PV:=bH 1 1 gf
noncomputable def lZ:DS:=(ao (sIf (G.tOr (G.eS (tV (eA (fun ps=>noErr (bS ps)) (aa (ae 0) aj)))) (G.tOr (G.eS (tV (eA (fun ps=>noErr (bS ps)) (aa (ae 1) aj)))) (G.tOr (G.eS (tV (eA (fun ps=>noErr (bS ps)) (aa (ae 2) aj)))) (tV (e2 pEq (ae 2) (eC (.int 0))))))) (fun _=>.stuck) aQ)
  (ao (av 3 (eA (fun ps=>noErr (c7 ps)) (aa (eA (fun ps=>noErr (c7 ps)) (aa (ae 0) (aa (ae 1) aj))) (aa (ae 2) aj))))
  (ao (sIf (tV (e2 (cy fun i j=>decide (i<j)) (ae 2) (eC (.int 0)))) (av 3 (e1 jV (ae 3))) aQ)
  (aJ (eA cN (aa (e2 bC (ae 0) (ae 3)) (aa (e2 bC (ae 1) (ae 3)) (aa (e2 bC (ae 2) (ae 3)) aj))))))))
noncomputable def dU:List PV→Res PV:=bH 3 4 lZ
noncomputable def cj:DS:=(ao (av 5 (e2 bU (e2 bC (ae 2) (eC (.int 4))) (bj 0)))
  (ao (av 6 (ah 0 (e2 a7 (ae 5) (eC (.int 1)))))
  (ao (av 7 (ah 0 (ae 5)))
  (ao (av 8 (ah 1 (e2 bU (e2 bC (ae 2) (eC (.int 32))) (bj 1))))
  (ao (av 9 (e2 bU (e2 bC (ae 2) (eC (.int 256))) (eC (.int 5))))
  (ao (av 10 (e2 a7 (e2 aS (e2 ay (eC (.int 4)) (ah 6 (eC (.int 0)))) (e2 ay (ae 9) (e2 a7 (ah 7 (eC (.int 0))) (ah 6 (eC (.int 0)))))) (e2 ay (eC (.int 4)) (ah 8 (eC (.int 0))))))
  (ao (av 11 (e2 a7 (e2 aS (e2 ay (eC (.int 4)) (ah 6 (eC (.int 1)))) (e2 ay (ae 9) (e2 a7 (ah 7 (eC (.int 1))) (ah 6 (eC (.int 1)))))) (e2 ay (eC (.int 4)) (ah 8 (eC (.int 1))))))
  (ao (sIf (tV (e2 pEq (e2 bU (ae 2) (eC (.int 4))) (eC (.int 1)))) (ao (av 10 (e2 aS (ae 10) (e2 ay (ae 4) (e2 a7 (e2 bU (ae 3) (eC (.int 9))) (eC (.int 4))))))
  (av 11 (e2 aS (ae 11) (e2 ay (ae 4) (e2 a7 (e2 bU (e2 bC (ae 3) (eC (.int 9))) (eC (.int 9))) (eC (.int 4))))))) aQ)
  (ao (sIf (tV (e2 pEq (e2 bU (ae 2) (eC (.int 4))) (eC (.int 2)))) (ao (av 10 (e2 aS (e2 ay (eC (.int 4)) (e2 a7 (e2 pIx (ah 0 (eC (.int 0))) (eC (.int 0))) (e2 pIx (ah 1 (eC (.int 0))) (eC (.int 0))))) (e2 ay (ae 4) (e2 a7 (e2 bU (ae 3) (eC (.int 81))) (eC (.int 40))))))
  (av 11 (e2 aS (e2 ay (eC (.int 4)) (e2 a7 (e2 pIx (ah 0 (eC (.int 0))) (eC (.int 1))) (e2 pIx (ah 1 (eC (.int 0))) (eC (.int 1))))) (e2 ay (ae 4) (e2 a7 (e2 bU (e2 bC (ae 3) (eC (.int 81))) (eC (.int 81))) (eC (.int 40))))))) aQ)
  (ao (sIf (tV (e2 pEq (e2 bU (ae 2) (eC (.int 4))) (eC (.int 3)))) (aJ (eA (fun ps=>noErr (dU ps)) (aa (e2 a7 (e2 aS (e2 ay (eC (.int 7)) (ae 10)) (e2 bU (ae 3) (eC (.int 3)))) (eC (.int 1))) (aa (e2 a7 (e2 aS (e2 ay (eC (.int 7)) (ae 11)) (e2 bU (e2 bC (ae 3) (eC (.int 3))) (eC (.int 3)))) (eC (.int 1))) (aa (eC (.int 28)) aj))))) aQ)
  (aJ (eA (fun ps=>noErr (dU ps)) (aa (ae 10) (aa (ae 11) (aa (eC (.int 4)) aj)))))))))))))))
noncomputable def dw:List PV→Res PV:=bH 5 12 cj
noncomputable def dF:DE:=(e2 ay (ae 1) (e2 aS (e2 ay (ah 0 (eC (.int 0))) (ah 2 (eC (.int 0)))) (e2 ay (ah 0 (eC (.int 1))) (ah 2 (eC (.int 1))))))
noncomputable def bR:DE:=(ah 1 (ae 0))
noncomputable def bP:DT:=(tV (e2 pEq (ah 2 (ae 0)) (eA dY (aa (ae 2) aj))))
noncomputable def dE:DE:=(e2 a7 (e2 ay (ah 1 (eC (.int 0))) (ah 0 (eC (.int 1)))) (e2 ay (ah 1 (eC (.int 1))) (ah 0 (eC (.int 0)))))
noncomputable def dM:DS:=(ao (av 4 (c6 (itE (ae 0)) (gN 0) dF 1 [3,2]))
  (ao (jQ 5 (itR aD (aa (bj 0) aj)) (gN 0) bP bR 1 [0,4])
  (ao (av 6 (ah 1 (eC (.int 2))))
  (ao (eT 7 (itE (ae 5)) (gN 0) dE 1 [2])
  (ao (av 8 (e2 a7 (e2 ay (ah 2 (eC (.int 0))) (ah 1 (eC (.int 1)))) (e2 ay (ah 2 (eC (.int 1))) (ah 1 (eC (.int 0))))))
  (aJ (eA iM (aa (e2 aS (e2 ay (eA iU (aa (ae 7) aj)) (ae 6)) (ae 8)) (aa (e2 aS (e2 ay (eA dY (aa (ae 7) aj)) (ae 6)) (ae 8)) aj)))))))))
noncomputable def bo:List PV→Res PV:=bH 4 9 dM
noncomputable def az:DS:=(ao (av 12 (e2 ay (e2 a7 (e2 ay (ah 4 (eC (.int 0))) (ah 11 (eC (.int 1)))) (e2 ay (ah 4 (eC (.int 1))) (ah 11 (eC (.int 0))))) (ae 7)))
  (av 10 (eA iM (aa (e2 aS (ah 10 (eC (.int 0))) (eA ke (aa (e2 pEq (ae 12) (e2 ay (ae 8) (ah 11 (eC (.int 2))))) aj))) (aa (e2 aS (ah 10 (eC (.int 1))) (eA ke (aa (e2 pEq (ae 12) (e2 ay (ae 9) (ah 11 (eC (.int 2))))) aj))) aj)))))
noncomputable def a8:DS:=(ao (av 5 (eA (fun ps=>noErr (bo ps)) (aa (ae 1) (aa (eA cN (aa (eC (.int 0)) (aa (eC (.int 0)) (aa (eC (.int 1)) aj)))) (aa (ae 4) (aa (eC (.int 1)) aj))))))
  (ao (av 6 (eA (fun ps=>noErr (bo ps)) (aa (ae 2) (aa (ae 3) (aa (ae 4) (aa (e2 a7 (eC (.int 0)) (eC (.int 1))) aj))))))
  (ao (av 7 (ah 3 (eC (.int 2))))
  (ao (av 8 (eA rY (aa (e2 ay (ah 5 (eC (.int 0))) (ae 7)) (aa (ah 6 (eC (.int 0))) aj))))
  (ao (av 9 (eA rX (aa (e2 ay (ah 5 (eC (.int 1))) (ae 7)) (aa (ah 6 (eC (.int 1))) aj))))
  (ao (sIf (tV (e2 (cy fun i j=>decide (j<i)) (ae 8) (ae 9))) (aJ (e2 pEq (ae 0) (eA iM aj))) aQ)
  (ao (av 10 (eA iM (aa (eC (.int 0)) (aa (eC (.int 0)) aj))))
  (ao (dZ (itE (ae 0)) (gN 11) az)
  (aJ (rR (e2 pEq (ae 10) (eA iM (aa (eC (.int 1)) (aa (eC (.int 1)) aj)))) (e2 pEq (bj 0) (e2 aS (eC (.int 1)) (eA ke (aa (e2 (cy fun i j=>decide (i<j)) (ae 8) (ae 9)) aj))))))))))))))
noncomputable def aM:List PV→Res PV:=bH 5 13 a8
noncomputable def iz:DS:=(ao (av 3 (e2 a7 (ah 2 (eC (.int 0))) (e2 ay (ah 0 (eC (.int 0))) (ah 2 (eC (.int 2))))))
  (ao (av 4 (e2 a7 (ah 2 (eC (.int 1))) (e2 ay (ah 0 (eC (.int 1))) (ah 2 (eC (.int 2))))))
  (aJ (e2 a7 (e2 ay (e2 a7 (ah 1 (eC (.int 0))) (ah 0 (eC (.int 0)))) (ae 4)) (e2 ay (e2 a7 (ah 1 (eC (.int 1))) (ah 0 (eC (.int 1)))) (ae 3))))))
noncomputable def dB:List PV→Res PV:=bH 3 5 iz
noncomputable def d4:DS:=(aJ (e2 (cy fun i j=>decide (j<i)) (eA (fun ps=>noErr (dB ps)) (aa (ae 0) (aa (ae 1) (aa (eA cN (aa (ah 2 (eC (.int 0))) (aa (ah 2 (eC (.int 1))) (aa (eC (.int 1)) aj)))) aj)))) (eC (.int 0))))
noncomputable def dt:List PV→Res PV:=bH 3 3 d4
noncomputable def eJ:DT:=(G.nM (tV (e2 (cy fun i j=>decide (j<i)) (bj 1) (eC (.int 1)))) (G.eS (tV (eA (fun ps=>noErr (dt ps)) (aa (ah 1 (e1 jV (eC (.int 2)))) (aa (ah 1 (e1 jV (eC (.int 1)))) (aa (ae 2) aj)))))))
noncomputable def iJ:DS:=(t6 1)
noncomputable def eM:DS:=(ao (cC eJ iJ)
  (lu 1 (ae 2)))
noncomputable def kR:DS:=(ao (lq 1 aj)
  (ao (dZ (itE (ae 0)) (gN 2) eM)
  (cV 1 (aJ (ae 1)))))
noncomputable def fz:List PV→Res PV:=bH 1 3 kR
noncomputable def gY:DE:=(eA cN (aa (ah 0 (eC (.int 0))) (aa (ah 0 (eC (.int 1))) aj)))
noncomputable def l5:DS:=(ao (av 1 (e1 eW (c6 (itE (ae 0)) (gN 0) gY 1 [])))
  (ao (av 2 (eA (fun ps=>noErr (fz ps)) (aa (ae 1) aj)))
  (ao (av 3 (eA (fun ps=>noErr (fz ps)) (aa (e1 uj (ae 1)) aj)))
  (ao (av 4 (e2 aS (eSl (ae 2) oNo (oE (e1 jV (eC (.int 1))))) (eSl (ae 3) oNo (oE (e1 jV (eC (.int 1)))))))
  (ao (sIf (tV (e2 (cy fun i j=>decide (i<j)) (bj 4) (eC (.int 3)))) (fun _=>.stuck) aQ)
  (aJ (ae 4)))))))
noncomputable def jh:List PV→Res PV:=bH 1 5 l5
noncomputable def jD:DS:=(aJ (eA (fun ps=>noErr (dU ps)) (aa (e2 aS (e2 ay (ah 0 (eC (.int 0))) (ah 1 (eC (.int 2)))) (ah 1 (eC (.int 0)))) (aa (e2 aS (e2 ay (ah 0 (eC (.int 1))) (ah 1 (eC (.int 2)))) (ah 1 (eC (.int 1)))) (aa (ah 1 (eC (.int 2))) aj)))))
noncomputable def dv:List PV→Res PV:=bH 2 2 jD
noncomputable def kQ:DS:=(ao (av 1 (e2 aS (eSl (ae 0) (oE (eC (.int 1))) oNo) (eSl (ae 0) oNo (oE (eC (.int 1))))))
  (aJ (e2 ui (ae 0) (ae 1))))
noncomputable def dH:List PV→Res PV:=bH 1 2 kQ
noncomputable def gd:DS:=(ao (av 2 (e2 a7 (e2 ay (ah 1 (eC (.int 0))) (ah 0 (eC (.int 2)))) (e2 ay (ah 0 (eC (.int 0))) (ah 1 (eC (.int 2))))))
  (ao (av 3 (e2 a7 (e2 ay (ah 1 (eC (.int 1))) (ah 0 (eC (.int 2)))) (e2 ay (ah 0 (eC (.int 1))) (ah 1 (eC (.int 2))))))
  (aJ (eA (fun ps=>noErr (dU ps)) (aa (ae 2) (aa (ae 3) (aa (e2 ay (ah 0 (eC (.int 2))) (ah 1 (eC (.int 2)))) aj)))))))
noncomputable def fj:List PV→Res PV:=bH 2 4 gd
noncomputable def fQ:DE:=(eA (fun ps=>noErr (dB ps)) (aa (ah 0 (eC (.int 0))) (aa (ah 0 (eC (.int 1))) (aa (ae 1) aj))))
noncomputable def jC:DS:=(ao (av 3 (eA (fun ps=>noErr (fj ps)) (aa (ae 1) (aa (ae 2) aj))))
  (ao (eT 4 (itE (eA (fun ps=>noErr (dH ps)) (aa (ae 0) aj))) (gN 0) fQ 1 [3])
  (ao (av 5 (eA iU (aa (ae 4) aj)))
  (ao (sIf (tV (e2 (cy fun i j=>decide (j<i)) (ae 5) (eC (.int 0)))) (aJ (eC (.int 1))) aQ)
  (ao (sIf (tV (e2 pEq (ae 5) (eC (.int 0)))) (aJ (eC (.int 0))) aQ)
  (aJ (e1 jV (eC (.int 1)))))))))
noncomputable def iK:List PV→Res PV:=bH 3 6 jC
noncomputable def cg:DE:=(eA (fun ps=>noErr (dv ps)) (aa (ae 0) (aa (ae 1) aj)))
noncomputable def cf:DE:=(ae 0)
noncomputable def aZ:DT:=(tV (e2 (cy fun i j=>decide (j≤i)) (eA (fun ps=>noErr (iK ps)) (aa (ae 1) (aa (ae 2) (aa (ae 0) aj)))) (eC (.int 0))))
noncomputable def bW:DS:=(ao (eT 4 (itE (ae 0)) (gN 0) cg 1 [1])
  (aJ (eZ (itE (ae 4)) (gN 0) aZ cf 1 [2,3])))
noncomputable def a9:List PV→Res PV:=bH 4 5 bW
noncomputable def jE:DS:=(aJ (e2 a7 (e2 ay (ah 0 (eC (.int 0))) (ah 1 (eC (.int 1)))) (e2 ay (ah 0 (eC (.int 1))) (ah 1 (eC (.int 0))))))
noncomputable def cv:List PV→Res PV:=bH 2 2 jE
noncomputable def iC:DS:=(ao (av 3 (e2 aS (e2 ay (ah 0 (eC (.int 0))) (ah 2 (eC (.int 1)))) (e2 ay (e2 ay (ah 1 (eC (.int 0))) (ah 2 (eC (.int 0)))) (ah 0 (eC (.int 2))))))
  (ao (av 4 (e2 aS (e2 ay (ah 0 (eC (.int 1))) (ah 2 (eC (.int 1)))) (e2 ay (e2 ay (ah 1 (eC (.int 1))) (ah 2 (eC (.int 0)))) (ah 0 (eC (.int 2))))))
  (aJ (eA (fun ps=>noErr (dU ps)) (aa (ae 3) (aa (ae 4) (aa (e2 ay (ah 0 (eC (.int 2))) (ah 2 (eC (.int 1)))) aj)))))))
noncomputable def eR:List PV→Res PV:=bH 3 5 iC
noncomputable def dA:DS:=(ao (sIf (tV (e2 (cy fun i j=>decide (i<j)) (ae 1) (eC (.int 0)))) (aJ (eCh (cy fun i j=>decide (i≤j)) (cy fun i j=>decide (i≤j)) (ae 1) (ae 0) (eC (.int 0)))) aQ)
  (aJ (eCh (cy fun i j=>decide (i≤j)) (cy fun i j=>decide (i≤j)) (eC (.int 0)) (ae 0) (ae 1))))
noncomputable def eO:List PV→Res PV:=bH 2 2 dA
noncomputable def fS:DS:=(ao (sIf (G.tOr (G.eS (tV (eA (fun ps=>noErr (bS ps)) (aa (ae 0) aj)))) (G.tOr (G.eS (tV (eA (fun ps=>noErr (bS ps)) (aa (ae 1) aj)))) (tV (e2 pEq (ae 1) (eC (.int 0)))))) (fun _=>.stuck) aQ)
  (ao (av 2 (eA (fun ps=>noErr (c7 ps)) (aa (ae 0) (aa (ae 1) aj))))
  (ao (sIf (tV (e2 (cy fun i j=>decide (i<j)) (ae 1) (eC (.int 0)))) (av 2 (e1 jV (ae 2))) aQ)
  (aJ (eA cN (aa (e2 bC (ae 0) (ae 2)) (aa (e2 bC (ae 1) (ae 2)) aj)))))))
noncomputable def fU:List PV→Res PV:=bH 2 3 fS
noncomputable def fv:DS:=(aJ (eA cN (aa (e2 a7 (e2 pIx (ah 0 (eC (.int 1))) (eC (.int 0))) (e2 pIx (ah 0 (eC (.int 0))) (eC (.int 0)))) (aa (e2 a7 (e2 pIx (ah 0 (eC (.int 1))) (eC (.int 1))) (e2 pIx (ah 0 (eC (.int 0))) (eC (.int 1)))) aj))))
noncomputable def bX:List PV→Res PV:=bH 1 1 fv
noncomputable def cF:DS:=(ao (av 3 (eA (fun ps=>noErr (bX ps)) (aa (ae 0) aj)))
  (ao (av 4 (eA (fun ps=>noErr (bX ps)) (aa (ae 1) aj)))
  (ao (av 5 (eA (fun ps=>noErr (cv ps)) (aa (ae 3) (aa (ae 4) aj))))
  (ao (sIf (tV (e2 pEq (ae 5) (eC (.int 0)))) (aJ (eC .non)) aQ)
  (ao (av 6 (eA (fun ps=>noErr (bX ps)) (aa (eA cN (aa (ah 0 (eC (.int 0))) (aa (ah 1 (eC (.int 0))) aj))) aj)))
  (ao (av 7 (eA cN (aa (e2 aS (e2 ay (ah 6 (eC (.int 0))) (ah 2 (eC (.int 2)))) (ah 2 (eC (.int 0)))) (aa (e2 aS (e2 ay (ah 6 (eC (.int 1))) (ah 2 (eC (.int 2)))) (ah 2 (eC (.int 1)))) aj))))
  (ao (av 8 (e2 ay (ae 5) (ah 2 (eC (.int 2)))))
  (ao (sIf (G.tOr (G.eS (tV (eA (fun ps=>noErr (eO ps)) (aa (eA (fun ps=>noErr (cv ps)) (aa (ae 7) (aa (ae 4) aj))) (aa (ae 8) aj))))) (G.eS (tV (eA (fun ps=>noErr (eO ps)) (aa (eA (fun ps=>noErr (cv ps)) (aa (ae 7) (aa (ae 3) aj))) (aa (ae 8) aj)))))) (aJ (eC .non)) aQ)
  (aJ (eA (fun ps=>noErr (eR ps)) (aa (eA (fun ps=>noErr (dv ps)) (aa (ah 0 (eC (.int 0))) (aa (eC (.tup [.int 0,.int 0,.int 1])) aj))) (aa (ae 3) (aa (eA (fun ps=>noErr (fU ps)) (aa (eA (fun ps=>noErr (cv ps)) (aa (ae 7) (aa (ae 4) aj))) (aa (ae 8) aj))) aj)))))))))))))
noncomputable def cI:List PV→Res PV:=bH 3 9 cF
noncomputable def cw:DS:=(ao (av 6 (eA (fun ps=>noErr (cI ps)) (aa (ae 4) (aa (ae 5) (aa (ae 2) aj)))))
  (sIf (tV (e2 oj (ae 6) (eC .non))) (lu 3 (ae 6)) aQ))
noncomputable def dG:DS:=(dZ (itE (eA (fun ps=>noErr (dH ps)) (aa (ae 1) aj))) (gN 5) cw)
noncomputable def dJ:DS:=(ao (lq 3 aj)
  (ao (dZ (itE (eA (fun ps=>noErr (dH ps)) (aa (ae 0) aj))) (gN 4) dG)
  (cV 3 (aJ (ae 3)))))
noncomputable def c8:List PV→Res PV:=bH 3 7 dJ
noncomputable def iG:DS:=(ao (av 2 (e2 ay (ah 0 (eC (.int 0))) (ah 1 (eC (.int 2)))))
  (ao (av 3 (e2 ay (ah 1 (eC (.int 0))) (ah 0 (eC (.int 2)))))
  (aJ (eOr (e2 (cy fun i j=>decide (i<j)) (ae 2) (ae 3)) (rR (e2 pEq (ae 2) (ae 3)) (e2 (cy fun i j=>decide (i<j)) (e2 ay (ah 0 (eC (.int 1))) (ah 1 (eC (.int 2)))) (e2 ay (ah 1 (eC (.int 1))) (ah 0 (eC (.int 2))))))))))
noncomputable def jL:List PV→Res PV:=bH 2 4 iG
noncomputable def b9:DE:=(ae 0)
noncomputable def bz:DT:=(tV (eA (fun ps=>noErr (jL ps)) (aa (ae 0) (aa (ae 1) aj))))
noncomputable def er:DS:=(ao (q9 1 3 (eA kd (aa (eZ (itE (ae 1)) (gN 0) bz b9 1 [2]) aj)))
  (pP 1 (ae 3) (ae 2)))
noncomputable def e7:DS:=(ao (lq 1 aj)
  (ao (dZ (itE (ae 0)) (gN 2) er)
  (cV 1 (aJ (ae 1)))))
noncomputable def dC:List PV→Res PV:=bH 1 4 e7
noncomputable def eY:DE:=(eA cN (aa (ae 0) (aa (eC (.bl true)) aj)))
noncomputable def gZ:DS:=(ao (av 3 (e2 aS (eA (fun ps=>noErr (a9 ps)) (aa (ae 0) (aa (eC (.tup [.int 0,.int 0,.int 1])) (aa (ae 1) (aa (ae 2) aj))))) (eA (fun ps=>noErr (a9 ps)) (aa (ae 1) (aa (ae 2) (aa (ae 0) (aa (eC (.tup [.int 0,.int 0,.int 1])) aj)))))))
  (ao (av 3 (e2 aS (ae 3) (eA (fun ps=>noErr (c8 ps)) (aa (ae 0) (aa (ae 1) (aa (ae 2) aj))))))
  (aJ (eA (fun ps=>noErr (dC ps)) (aa (e1 pKeys (c6 (itE (ae 3)) (gN 0) eY 1 [])) aj)))))
noncomputable def dP:List PV→Res PV:=bH 3 4 gZ
noncomputable def kP:DE:=(eA (fun ps=>noErr (bZ ps)) (aa (ae 1) (aa (e2 aS (ae 2) (ae 0)) aj)))
noncomputable def kO:DE:=(eA (fun ps=>noErr (dD ps)) (aa (ae 1) (aa (ae 2) (aa (ae 3) (aa (ae 0) aj)))))
noncomputable def kS:DS:=(ao (eT 2 (itR aD (aa (eC (.int 6)) aj)) (gN 0) kP 1 [0,1])
  (ao (av 3 (eA (fun ps=>noErr (fk ps)) (aa (e2 bC (ah 2 (eC (.int 3))) (eC (.int 7))) aj)))
  (ao (av 4 (eA (fun ps=>noErr (jh ps)) (aa (eA (fun ps=>noErr (bT ps)) (aa (ah 2 (eC (.int 0))) (aa (ah 2 (eC (.int 1))) (aa (ae 3) aj)))) aj)))
  (ao (av 5 (eA (fun ps=>noErr (jh ps)) (aa (eA (fun ps=>noErr (bT ps)) (aa (ah 2 (eC (.int 2))) (aa (ah 2 (eC (.int 3))) (aa (ae 3) aj)))) aj)))
  (ao (av 6 (eA (fun ps=>noErr (dw ps)) (aa (ae 4) (aa (ae 5) (aa (ah 2 (eC (.int 4))) (aa (ah 2 (eC (.int 5))) (aa (ae 3) aj)))))))
  (ao (av 7 (eA (fun ps=>noErr (dP ps)) (aa (eA qG (aa (ae 4) aj)) (aa (eA qG (aa (ae 5) aj)) (aa (ae 6) aj)))))
  (ao (av 8 (eA (fun ps=>noErr (aW ps)) (aa (ae 4) (aa (ae 5) aj))))
  (ao (eT 9 (itE (ae 8)) (gN 0) kO 1 [4,5,6])
  (sIf (tV (e2 (cy fun i j=>decide (j<i)) (eA dY (aa (ae 9) aj)) (eC (.int 0)))) (sIf (tV (e2 pNe (ae 7) (eA iM aj))) (aJ (eC (.bl false))) aQ) (sIf (tV (e2 pEq (eA dY (aa (ae 9) aj)) (eC (.int 0)))) (sIf (G.eS (tV (eA (fun ps=>noErr (aM ps)) (aa (ae 7) (aa (ae 4) (aa (ae 5) (aa (ae 6) (aa (ah 8 (iw 9 (eC (.int 0)))) aj)))))))) (aJ (eC (.bl false))) aQ) (sIf (G.eS (tV (eA (fun ps=>noErr (aF ps)) (aa (ae 7) (aa (ae 4) (aa (ae 5) (aa (ae 6) aj))))))) (aJ (eC (.bl false))) aQ)))))))))))
noncomputable def tj:DS:=(ao (dZ (itR ib (aa (eC (.int 0)) (aa (eA rY (aa (eC (.int 1)) (aa (eA rX (aa (bj 0) (aa (eC (.int 30)) aj))) aj))) (aa (eC (.int 6)) aj)))) (gN 1) kS)
  (aJ (eC (.bl true))))
noncomputable def qK:List PV→Res PV:=bH 1 10 tj
section
variable {P:Program}{w:World}{K:PySem.W.Frag}{mg:Str→Option Value}{base h:Heap}
theorem pO:FnScope ["cell"] ["cell"] (ak (top 36)):=⟨rfl,rfl,rfl,by decide +kernel,rfl,by decide +kernel,by decide +kernel⟩
theorem qp (D:DefAt K "_law_big" (top 36)) (KI:K.In h) (GN:h.Ns mainGlobals mg) (B:Bi mg) :FunIn P w K mg base "_law_big" 1 fk:=by
 have nd:=pO.nd
 refine aO D KI GN pO (fun _ _ _ _ _ _ us hl=>match us,hl with | [_],_=>rfl) (fun f cdv A outer s H Hs E hr=>?_)
 have hu:=aK hr
 exact(xb (c9 (xtc (bK hu) (xop aH (xv 0) af) af) (xb1 (bu af)) xb0)
  (xb1 (bu (xop ax af (xop aH (xop aP (xv 0) af) (xop sD af af))))))
theorem nU:FnScope ["script","k","number","cell"] ["script","k"] (ak (top 33)):=⟨rfl,rfl,rfl,by decide +kernel,rfl,by decide +kernel,by decide +kernel⟩
theorem oN (D:DefAt K "_law_cell" (top 33)) (KI:K.In h) (GN:h.Ns mainGlobals mg) (B:Bi mg) :FunIn P w K mg base "_law_cell" 1 bZ:=by
 have nd:=nU.nd
 refine aO D KI GN nU (fun _ _ _ _ _ _ us hl=>match us,hl with | [_,_],_=>rfl) (fun f cdv A outer s H Hs E hr=>?_)
 have hu:=aK hr
 exact(xb (c9 (xtc fE (xv 1) (xlV 0 B.len)) (xb1 (bu (xop aH (xiV 0 (xv 1)) (xop sD af af)))) xb0)
  (xb (aE 2 (xop ax (xop ag (xv 1) af) af))
  (xb (ji PassesOwn.never (fB (xsl (xv 0) xo0 (xo af))) (xgn 3) (xb1 (aE 2 (xop ax (xop ag (xv 2) af) (xop aH (xv 3) af)))))
  (xb (aE 2 (xop aH (xv 2) af))
  (xb1 (bu (xop aH (xop ag (xv 2) (xv 2)) af)))))))
theorem i4:FnScope ["ones","others","due","k"] ["ones","others"] (ak (top 38)):=⟨rfl,rfl,rfl,by decide +kernel,rfl,by decide +kernel,by decide +kernel⟩
theorem jd (D:DefAt K "_law_directions" (top 38)) (KI:K.In h) (GN:h.Ns mainGlobals mg) (B:Bi mg) :FunIn P w K mg base "_law_directions" 1 aW:=by
 have nd:=i4.nd
 refine aO D KI GN i4 (fun _ _ _ _ _ _ us hl=>match us,hl with | [_,_],_=>rfl) (fun f cdv A outer s H Hs E hr=>?_)
 have hu:=aK hr
 exact(xb (uZ 2 xa0)
  (xb (ji PassesOwn.never (xr1 B.range (xa (xlV 0 B.len) xa0)) (xgn 3) (xb1 (u9 2 (fA (xa (xop au (xiX (xiV 0 (xv 3)) af) (xiX (xiV 0 (xop au (xv 3) af)) af)) (xa (xop au (xiX (xiV 0 (xop au (xv 3) af)) af) (xiX (xiV 0 (xv 3)) af)) xa0))))))
  (xb (ji PassesOwn.never (xr1 B.range (xa (xlV 1 B.len) xa0)) (xgn 3) (xb1 (u9 2 (fA (xa (xop au (xiX (xiV 1 (xop au (xv 3) af)) af) (xiX (xiV 1 (xv 3)) af)) (xa (xop au (xiX (xiV 1 (xv 3)) af) (xiX (xiV 1 (xop au (xv 3) af)) af)) xa0))))))
  (xb1 (iV 2 (bu (xv 2)))))))
theorem pN:FnScope ["ones","others","shift","n","low","high"] ["ones","others","shift","n"] (ak (top 37)):=⟨rfl,rfl,rfl,by decide +kernel,rfl,by decide +kernel,by decide +kernel⟩
theorem qo (D:DefAt K "_law_gap" (top 37)) (KI:K.In h) (GN:h.Ns mainGlobals mg) (B:Bi mg) :FunIn P w K mg base "_law_gap" 1 dD:=by
 have nd:=pN.nd
 refine aO D KI GN pN (fun _ _ _ _ _ _ us hl=>match us,hl with | [_,_,_,_],_=>rfl) (fun f cdv A outer s H Hs E hr=>?_)
 have hu:=aK hr
 exact(xb (aE 4 (xcB (oY rfl) B.min l8 (xa (mS (jM ["point"] (cap 3 "n" iP) j5 (fun _ _ _ _ _ _ _ nd2=>(xgn 0)) (fun _ _ _ _ _ _ _ nd2=>(xop ax (xop ag (xiV 0 af) (xiV 1 af)) (xop ag (xiV 0 af) (xiV 1 af))))) (fB (xv 1))) xa0)))
  (xb (aE 5 (xcB (jF rfl) B.max jf (xa (mS (jM ["point"] (cap 3 "n" iP) j5 (fun _ _ _ _ _ _ _ nd2=>(xgn 0)) (fun _ _ _ _ _ _ _ nd2=>(xop ax (xop ag (xiV 0 af) (xiV 1 af)) (xop ag (xiV 0 af) (xiV 1 af))))) (fB (xv 0))) xa0)))
  (xb1 (bu (xop ax (xop ax (xop ag (xop au (xv 4) (xv 5)) (xiV 2 af)) (xop ag (xiV 2 af) (xiV 3 af))) (xop ag (xiV 2 af) (xiV 3 af)))))))
theorem lj:FnScope ["cell","more","big","a","b","c","points","k","aside","upward"] ["cell","more","big"] (ak (top 34)):=⟨rfl,rfl,rfl,by decide +kernel,rfl,by decide +kernel,by decide +kernel⟩
theorem lW (D:DefAt K "_law_points" (top 34)) (KI:K.In h) (GN:h.Ns mainGlobals mg) (B:Bi mg) :FunIn P w K mg base "_law_points" 1 bT:=by
 have nd:=lj.nd
 refine aO D KI GN lj (fun _ _ _ _ _ _ us hl=>match us,hl with | [_,_,_],_=>rfl) (fun f cdv A outer s H Hs E hr=>?_)
 have hu:=aK hr
 exact(xb (aE 3 (xop ax af (xop aH (xv 0) af)))
  (xb (aE 4 (xop ax af (xop aH (xop aP (xv 0) af) af)))
  (xb (aE 5 (xop au (xop aH (xop aP (xv 0) af) af) af))
  (xb (uZ 6 (xa (fA (xa af (xa af xa0))) (xa (fA (xa (xv 3) (xa af xa0))) (xa (fA (xa (xv 5) (xa (xv 4) xa0))) xa0))))
  (xb (ji PassesOwn.never (xr1 B.range (xa (xop aH (xop aP (xv 0) af) af) xa0)) (xgn 7) (xb (u9 6 (fA (xa (xop au (xop aH (xv 1) af) af) (xa (xop au (xop aH (xop aP (xv 1) af) af) af) xa0))))
  (xb1 (aE 1 (xop aP (xv 1) af)))))
  (xb (c9 (xtc (bK hu) (xop aH (xop aP (xv 0) af) af) af) (xb1 (iV 6 (sd 6 (jM ["x","y"] iP Cp (fun _ _ _ _ _ _ _ nd2=>(xgu (xgs 0 (xgs 1 AE)))) (fun _ _ _ _ _ _ _ nd2=>(fA (xa (xv 1) (xa (xv 0) xa0))))) (fB (xv 6))))) xb0)
  (xb (c9 (xtc (bK hu) (xop aH (xop aP (xv 0) af) af) af) (xb1 (iV 6 (sd 6 (jM ["x","y"] iP Cp (fun _ _ _ _ _ _ _ nd2=>(xgu (xgs 0 (xgs 1 AE)))) (fun _ _ _ _ _ _ _ nd2=>(fA (xa (xop au af (xv 0)) (xa (xv 1) xa0))))) (fB (xv 6))))) xb0)
  (xb (aE 8 (xop au (xop aH (xop aP (xv 0) af) af) af))
  (xb (aE 9 (xop au (xop aH (xop aP (xv 0) af) af) af))
  (xb1 (iV 6 (bu (mS (jM ["x","y"] (cap 2 "big" (cap 8 "aside" (cap 9 "upward" iP))) Cp (fun _ _ _ _ _ _ _ nd2=>(xgu (xgs 0 (xgs 1 AE)))) (fun _ _ _ _ _ _ _ nd2=>(fA (xa (xop ag (xv 2) (xop ax (xv 0) (xv 3))) (xa (xop ag (xv 2) (xop ax (xv 1) (xv 4))) xa0))))) (fB (xv 6)))))))))))))))
theorem nV:FnScope ["one","two","three","x","y","left"] ["one","two","three"] (ak (top 39)):=⟨rfl,rfl,rfl,by decide +kernel,rfl,by decide +kernel,by decide +kernel⟩
theorem oO (D:DefAt K "_law_bend" (top 39)) (KI:K.In h) (GN:h.Ns mainGlobals mg) (B:Bi mg) :FunIn P w K mg base "_law_bend" 1 bq:=by
 have nd:=nV.nd
 refine aO D KI GN nV (fun _ _ _ _ _ _ us hl=>match us,hl with | [_,_,_],_=>rfl) (fun f cdv A outer s H Hs E hr=>?_)
 have hu:=aK hr
 exact(xb (aE 3 (xop au (xop ag (xiV 1 af) (xiV 0 af)) (xop ag (xiV 0 af) (xiV 1 af))))
  (xb (aE 4 (xop au (xop ag (xiV 1 af) (xiV 0 af)) (xop ag (xiV 0 af) (xiV 1 af))))
  (xb (aE 5 (xop ag (xv 3) (xop au (xop ag (xiV 2 af) (xiV 0 af)) (xop ag (xiV 0 af) (xiV 2 af)))))
  (xb1 (bu (xop au (xv 5) (xop ag (xv 4) (xop au (xop ag (xiV 2 af) (xiV 0 af)) (xop ag (xiV 0 af) (xiV 2 af))))))))))
theorem jq:FnScope ["one","two","corners","shift","w","k","first","last"] ["one","two","corners","shift"] (ak (top 40)):=⟨rfl,rfl,rfl,by decide +kernel,rfl,by decide +kernel,by decide +kernel⟩
theorem jx (D:DefAt K "_law_on_a_side" (top 40)) (KI:K.In h) (GN:h.Ns mainGlobals mg) (B:Bi mg) (Hc:FunIn P w K mg base "_law_bend" 1 bq):FunIn P w K mg base "_law_on_a_side" 2 aV:=by
 have nd:=jq.nd
 refine aO D KI GN jq (fun _ _ _ _ _ _ us hl=>match us,hl with | [_,_,_,_],_=>rfl) (fun f cdv A outer s H Hs E hr=>?_)
 have hu:=aK hr
 exact(xb (aE 4 (xiV 3 af))
  (xb (ji PassesOwn.never (xr1 B.range (xa (xlV 2 B.len) xa0)) (xgn 5) (xb (aE 6 (fA (xa (xop ax (xop ag (xiX (xiV 2 (xop au (xv 5) af)) af) (xv 4)) (xiV 3 af)) (xa (xop ax (xop ag (xiX (xiV 2 (xop au (xv 5) af)) af) (xv 4)) (xiV 3 af)) (xa (xv 4) xa0)))))
  (xb (aE 7 (fA (xa (xop ax (xop ag (xiX (xiV 2 (xv 5)) af) (xv 4)) (xiV 3 af)) (xa (xop ax (xop ag (xiX (xiV 2 (xv 5)) af) (xv 4)) (xiV 3 af)) (xa (xv 4) xa0)))))
  (xb1 (c9 (xw (Ai (xtc (bK hu) (xcF (Hc.is hr) (xa (xv 6) (xa (xv 7) (xa (xv 0) xa0)))) af) (Aj (xtc (bK hu) (xcF (Hc.is hr) (xa (xv 6) (xa (xv 7) (xa (xv 1) xa0)))) af)))) (xb1 (bu xbl)) xb0)))))
  (xb1 (bu xbl))))
theorem mH:FnScope ["told","one","two","left","right","place","bend_there"] ["told","one","two"] (ak (top 41)):=⟨rfl,rfl,rfl,by decide +kernel,rfl,by decide +kernel,by decide +kernel⟩
theorem mP (D:DefAt K "_law_outer" (top 41)) (KI:K.In h) (GN:h.Ns mainGlobals mg) (B:Bi mg) (Hc:FunIn P w K mg base "_law_bend" 1 bq):FunIn P w K mg base "_law_outer" 2 cq:=by
 have nd:=mH.nd
 refine aO D KI GN mH (fun _ _ _ _ _ _ us hl=>match us,hl with | [_,_,_],_=>rfl) (fun f cdv A outer s H Hs E hr=>?_)
 have hu:=aK hr
 exact(xb (aE 3 af)
  (xb (aE 4 af)
  (xb (ji PassesOwn.never (fB (xv 0)) (xgn 5) (xb (aE 6 (xcF (Hc.is hr) (xa (xv 1) (xa (xv 2) (xa (xv 5) xa0)))))
  (xb (aE 3 (xop ax (xv 3) (xcT l7 B.int j9 (xa (jj jZ (xv 6) af) xa0))))
  (xb1 (aE 4 (xop ax (xv 4) (xcT l7 B.int j9 (xa (jj fE (xv 6) af) xa0))))))))
  (xb1 (bu (CV (jj (bK hu) (xv 3) af) (u4 (jj (bK hu) (xv 4) af))))))))
theorem gD:FnScope ["told","ones","others","shift","k","i"] ["told","ones","others","shift"] (ak (top 42)):=⟨rfl,rfl,rfl,by decide +kernel,rfl,by decide +kernel,by decide +kernel⟩
theorem gQ (D:DefAt K "_law_region_right" (top 42)) (KI:K.In h) (GN:h.Ns mainGlobals mg) (B:Bi mg) (Hh:FunIn P w K mg base "_law_on_a_side" 2 aV) (Hi:FunIn P w K mg base "_law_outer" 2 cq):FunIn P w K mg base "_law_region_right" 3 aF:=by
 have nd:=gD.nd
 refine aO D KI GN gD (fun _ _ _ _ _ _ us hl=>match us,hl with | [_,_,_,_],_=>rfl) (fun f cdv A outer s H Hs E hr=>?_)
 have hu:=aK hr
 exact(xb (c9 (xtc fE (xlV 0 B.len) af) (xb1 (bu xbl)) xb0)
  (xb (ji PassesOwn.never (xr1 B.range (xa (xlV 0 B.len) xa0)) (xgn 4) (xb1 (ji PassesOwn.never (xr1 B.range (xa (xv 4) xa0)) (xgn 5) (xb1 (c9 (xtv (xcF (Hi.is hr) (xa (xv 0) (xa (xiV 0 (xv 5)) (xa (xiV 0 (xv 4)) xa0))))) (xb1 (c9 (xtn (xtv (xcF (Hh.is hr) (xa (xiV 0 (xv 5)) (xa (xiV 0 (xv 4)) (xa (xv 1) (xa (fA (xa af (xa af (xa af xa0)))) xa0))))))) (xb1 (c9 (xtn (xtv (xcF (Hh.is hr) (xa (xiV 0 (xv 5)) (xa (xiV 0 (xv 4)) (xa (xv 2) (xa (xv 3) xa0))))))) (xb1 (bu xbl)) xb0)) xb0)) xb0)))))
  (xb1 (bu xbl))))
theorem q8:FnScope ["one","other","rest"] ["one","other"] (ak (top 11)):=⟨rfl,rfl,rfl,by decide +kernel,rfl,by decide +kernel,by decide +kernel⟩
theorem rM (D:DefAt K "divisor" (top 11)) (KI:K.In h) (GN:h.Ns mainGlobals mg) (B:Bi mg) :FunIn P w K mg base "divisor" 1 c7:=by
 have nd:=q8.nd
 refine aO D KI GN q8 (fun _ _ _ _ _ _ us hl=>match us,hl with | [_,_],_=>rfl) (fun f cdv A outer s H Hs E hr=>?_)
 have hu:=aK hr
 exact(xb (aE 0 (xcB xu B.abs xJ (xa (xv 0) xa0)))
  (xb (aE 1 (xcB xu B.abs xJ (xa (xv 1) xa0)))
  (xb (uY PassesOwn.never (xtc (we hu) (xv 1) af) (xb (aE 2 (xop aH (xv 0) (xv 1)))
  (xb (aE 0 (xv 1))
  (xb1 (aE 1 (xv 2))))))
  (xb1 (bu (xv 0))))))
theorem pK:FnScope ["thing"] ["thing"] (ak (top 10)):=⟨rfl,rfl,rfl,by decide +kernel,rfl,by decide +kernel,by decide +kernel⟩
theorem qi (D:DefAt K "is_whole" (top 10)) (KI:K.In h) (GN:h.Ns mainGlobals mg) (B:Bi mg) :FunIn P w K mg base "is_whole" 1 bS:=by
 have nd:=pK.nd
 refine aO D KI GN pK (fun _ _ _ _ _ _ us hl=>match us,hl with | [_],_=>rfl) (fun f cdv A outer s H Hs E hr=>?_)
 have hu:=aK hr
 exact(xb1 (bu (AG (xcI (xv 0) B8 j9 B.isinstance B.int) (u4 (EK (xcI (xv 0) zC Ac B.isinstance B.bool))))))
theorem yu:FnScope ["x","y","w","common"] ["x","y","w"] (ak (top 15)):=⟨rfl,rfl,rfl,by decide +kernel,rfl,by decide +kernel,by decide +kernel⟩
theorem zM (D:DefAt K "spot" (top 15)) (KI:K.In h) (GN:h.Ns mainGlobals mg) (B:Bi mg) (Hw:FunIn P w K mg base "divisor" 1 c7) (HB:FunIn P w K mg base "is_whole" 1 bS):FunIn P w K mg base "spot" 2 dU:=by
 have nd:=yu.nd
 refine aO D KI GN yu (fun _ _ _ _ _ _ us hl=>match us,hl with | [_,_,_],_=>rfl) (fun f cdv A outer s H Hs E hr=>?_)
 have hu:=aK hr
 exact(xb (c9 (xw (tH (xtn (xtv (xcF (HB.is hr) (xa (xv 0) xa0)))) (tH (xtn (xtv (xcF (HB.is hr) (xa (xv 1) xa0)))) (tH (xtn (xtv (xcF (HB.is hr) (xa (xv 2) xa0)))) (AB (xtc (bK hu) (xv 2) af)))))) (xb1 qL) xb0)
  (xb (aE 3 (xcF (Hw.is hr) (xa (xcF (Hw.is hr) (xa (xv 0) (xa (xv 1) xa0))) (xa (xv 2) xa0))))
  (xb (c9 (xtc fE (xv 2) af) (xb1 (aE 3 (qM (xv 3)))) xb0)
  (xb1 (bu (fA (xa (xop aP (xv 0) (xv 3)) (xa (xop aP (xv 1) (xv 3)) (xa (xop aP (xv 2) (xv 3)) xa0)))))))))
theorem mG:FnScope ["ones","others","cell","more","big","k","first","last","corner","part","x","y"] ["ones","others","cell","more","big"] (ak (top 35)):=⟨rfl,rfl,rfl,by decide +kernel,rfl,by decide +kernel,by decide +kernel⟩
theorem mO (D:DefAt K "_law_shift" (top 35)) (KI:K.In h) (GN:h.Ns mainGlobals mg) (B:Bi mg) (HH:FunIn P w K mg base "spot" 2 dU):FunIn P w K mg base "_law_shift" 3 dw:=by
 have nd:=mG.nd
 refine aO D KI GN mG (fun _ _ _ _ _ _ us hl=>match us,hl with | [_,_,_,_,_],_=>rfl) (fun f cdv A outer s H Hs E hr=>?_)
 have hu:=aK hr
 exact(xb (aE 5 (xop aH (xop aP (xv 2) af) (xlV 0 B.len)))
  (xb (aE 6 (xiV 0 (xop au (xv 5) af)))
  (xb (aE 7 (xiV 0 (xv 5)))
  (xb (aE 8 (xiV 1 (xop aH (xop aP (xv 2) af) (xlV 1 B.len))))
  (xb (aE 9 (xop aH (xop aP (xv 2) af) af))
  (xb (aE 10 (xop au (xop ax (xop ag af (xiV 6 af)) (xop ag (xv 9) (xop au (xiV 7 af) (xiV 6 af)))) (xop ag af (xiV 8 af))))
  (xb (aE 11 (xop au (xop ax (xop ag af (xiV 6 af)) (xop ag (xv 9) (xop au (xiV 7 af) (xiV 6 af)))) (xop ag af (xiV 8 af))))
  (xb (c9 (xtc (bK hu) (xop aH (xv 2) af) af) (xb (aE 10 (xop ax (xv 10) (xop ag (xv 4) (xop au (xop aH (xv 3) af) af))))
  (xb1 (aE 11 (xop ax (xv 11) (xop ag (xv 4) (xop au (xop aH (xop aP (xv 3) af) af) af)))))) xb0)
  (xb (c9 (xtc (bK hu) (xop aH (xv 2) af) af) (xb (aE 10 (xop ax (xop ag af (xop au (xiX (xiV 0 af) af) (xiX (xiV 1 af) af))) (xop ag (xv 4) (xop au (xop aH (xv 3) af) af))))
  (xb1 (aE 11 (xop ax (xop ag af (xop au (xiX (xiV 0 af) af) (xiX (xiV 1 af) af))) (xop ag (xv 4) (xop au (xop aH (xop aP (xv 3) af) af) af)))))) xb0)
  (xb (c9 (xtc (bK hu) (xop aH (xv 2) af) af) (xb1 (bu (xcF (HH.is hr) (xa (xop au (xop ax (xop ag af (xv 10)) (xop aH (xv 3) af)) af) (xa (xop au (xop ax (xop ag af (xv 11)) (xop aH (xop aP (xv 3) af) af)) af) (xa af xa0)))))) xb0)
  (xb1 (bu (xcF (HH.is hr) (xa (xv 10) (xa (xv 11) (xa af xa0))))))))))))))))
theorem nT:FnScope ["corners","shift","n","sign","ends","some","w","aside","off"] ["corners","shift","n","sign"] (ak (top 43)):=⟨rfl,rfl,rfl,by decide +kernel,rfl,by decide +kernel,by decide +kernel⟩
theorem oM (D:DefAt K "_law_span" (top 43)) (KI:K.In h) (GN:h.Ns mainGlobals mg) (B:Bi mg) :FunIn P w K mg base "_law_span" 1 bo:=by
 have nd:=nT.nd
 refine aO D KI GN nT (fun _ _ _ _ _ _ us hl=>match us,hl with | [_,_,_,_],_=>rfl) (fun f cdv A outer s H Hs E hr=>?_)
 have hu:=aK hr
 exact(xb (CU 4 (mS (jM ["point"] (cap 3 "sign" (cap 2 "n" iP)) j5 (fun _ _ _ _ _ _ _ nd2=>(xgn 0)) (fun _ _ _ _ _ _ _ nd2=>(xop ag (xv 1) (xop ax (xop ag (xiV 0 af) (xiV 2 af)) (xop ag (xiV 0 af) (xiV 2 af)))))) (fB (xv 0))))
  (xb (yi 5 (u7 ["k"] (cap 0 "corners" (cap 4 "ends" iP)) j5 (fun _ _ _ _ _ _ _ nd2=>(xgn 0)) (fun _ _ _ _ _ _ _ nd2=>(xiV 1 (xv 0))) (fun _ _ _ _ _ _ _ nd2=>(xtc (bK hu) (xiV 2 (xv 0)) (xcB (jF rfl) B.max jf (xa (xv 2) xa0))))) (xr1 B.range (xa (xlV 0 B.len) xa0)))
  (xb (aE 6 (xiV 1 af))
  (xb (kX 7 (jM ["point"] (cap 2 "n" iP) j5 (fun _ _ _ _ _ _ _ nd2=>(xgn 0)) (fun _ _ _ _ _ _ _ nd2=>(xop au (xop ag (xiV 1 af) (xiV 0 af)) (xop ag (xiV 1 af) (xiV 0 af))))) (fB (xv 5)))
  (xb (aE 8 (xop au (xop ag (xiV 2 af) (xiV 1 af)) (xop ag (xiV 2 af) (xiV 1 af))))
  (xb1 (bu (tI (xa (xop ax (xop ag (xcB (oY rfl) B.min l8 (xa (xv 7) xa0)) (xv 6)) (xv 8)) (xa (xop ax (xop ag (xcB (jF rfl) B.max jf (xa (xv 7) xa0)) (xv 6)) (xv 8)) xa0))))))))))
theorem iL:FnScope ["told","ones","others","shift","n","mine","theirs","w","low","high","hits","place","far"] ["told","ones","others","shift","n"] (ak (top 44)):=⟨rfl,rfl,rfl,by decide +kernel,rfl,by decide +kernel,by decide +kernel⟩
theorem iO (D:DefAt K "_law_touch_right" (top 44)) (KI:K.In h) (GN:h.Ns mainGlobals mg) (B:Bi mg) (Hm:FunIn P w K mg base "_law_span" 1 bo):FunIn P w K mg base "_law_touch_right" 2 aM:=by
 have nd:=iL.nd
 refine aO D KI GN iL (fun _ _ _ _ _ _ us hl=>match us,hl with | [_,_,_,_,_],_=>rfl) (fun f cdv A outer s H Hs E hr=>?_)
 have hu:=aK hr
 exact(xb (aE 5 (xcF (Hm.is hr) (xa (xv 1) (xa (fA (xa af (xa af (xa af xa0)))) (xa (xv 4) (xa af xa0))))))
  (xb (aE 6 (xcF (Hm.is hr) (xa (xv 2) (xa (xv 3) (xa (xv 4) (xa (xop au af af) xa0))))))
  (xb (aE 7 (xiV 3 af))
  (xb (aE 8 (xcB (xr rfl) B.max jf (xa (xop ag (xiV 5 af) (xv 7)) (xa (xiV 6 af) xa0))))
  (xb (aE 9 (xcB (xq rfl) B.min l8 (xa (xop ag (xiV 5 af) (xv 7)) (xa (xiV 6 af) xa0))))
  (xb (c9 (xtc jZ (xv 8) (xv 9)) (xb1 (bu (jj (bK hu) (xv 0) (tI xa0)))) xb0)
  (xb (aE 10 (tI (xa af (xa af xa0))))
  (xb (ji PassesOwn.never (fB (xv 0)) (xgn 11) (xb (aE 12 (xop ag (xop au (xop ag (xiV 4 af) (xiV 11 af)) (xop ag (xiV 4 af) (xiV 11 af))) (xv 7)))
  (xb1 (aE 10 (tI (xa (xop ax (xiV 10 af) (xcT l7 B.int j9 (xa (jj (bK hu) (xv 12) (xop ag (xv 8) (xiV 11 af))) xa0))) (xa (xop ax (xiV 10 af) (xcT l7 B.int j9 (xa (jj (bK hu) (xv 12) (xop ag (xv 9) (xiV 11 af))) xa0))) xa0)))))))
  (xb1 (bu (AG (jj (bK hu) (xv 10) (tI (xa af (xa af xa0)))) (u4 (jj (bK hu) (xlV 0 B.len) (xop ax af (xcT l7 B.int j9 (xa (jj fE (xv 8) (xv 9)) xa0))))))))))))))))
theorem qX:FnScope ["P","Q","S","right","up"] ["P","Q","S"] (ak (top 5)):=⟨rfl,rfl,rfl,by decide +kernel,rfl,by decide +kernel,by decide +kernel⟩
theorem rJ (D:DefAt K "left_by" (top 5)) (KI:K.In h) (GN:h.Ns mainGlobals mg) (B:Bi mg) :FunIn P w K mg base "left_by" 1 dB:=by
 have nd:=qX.nd
 refine aO D KI GN qX (fun _ _ _ _ _ _ us hl=>match us,hl with | [_,_,_],_=>rfl) (fun f cdv A outer s H Hs E hr=>?_)
 have hu:=aK hr
 exact(xb (aE 3 (xop au (xiV 2 af) (xop ag (xiV 0 af) (xiV 2 af))))
  (xb (aE 4 (xop au (xiV 2 af) (xop ag (xiV 0 af) (xiV 2 af))))
  (xb1 (bu (xop au (xop ag (xop au (xiV 1 af) (xiV 0 af)) (xv 4)) (xop ag (xop au (xiV 1 af) (xiV 0 af)) (xv 3)))))))
theorem mF:FnScope ["P","Q","R"] ["P","Q","R"] (ak (top 6)):=⟨rfl,rfl,rfl,by decide +kernel,rfl,by decide +kernel,by decide +kernel⟩
theorem mN (D:DefAt K "turns_left" (top 6)) (KI:K.In h) (GN:h.Ns mainGlobals mg) (B:Bi mg) (HC:FunIn P w K mg base "left_by" 1 dB):FunIn P w K mg base "turns_left" 2 dt:=by
 have nd:=mF.nd
 refine aO D KI GN mF (fun _ _ _ _ _ _ us hl=>match us,hl with | [_,_,_],_=>rfl) (fun f cdv A outer s H Hs E hr=>?_)
 have hu:=aK hr
 exact(xb1 (bu (jj jZ (xcF (HC.is hr) (xa (xv 0) (xa (xv 1) (xa (fA (xa (xiV 2 af) (xa (xiV 2 af) (xa af xa0)))) xa0)))) af)))
theorem vm:FnScope ["points","kept","point"] ["points"] (ak (top 7)):=⟨rfl,rfl,rfl,by decide +kernel,rfl,by decide +kernel,by decide +kernel⟩
theorem wZ (D:DefAt K "chain" (top 7)) (KI:K.In h) (GN:h.Ns mainGlobals mg) (B:Bi mg) (HI:FunIn P w K mg base "turns_left" 2 dt):FunIn P w K mg base "chain" 3 fz:=by
 have nd:=vm.nd
 refine aO D KI GN vm (fun _ _ _ _ _ _ us hl=>match us,hl with | [_],_=>rfl) (fun f cdv A outer s H Hs E hr=>?_)
 have hu:=aK hr
 exact(xb (uZ 1 xa0)
  (xb (ji PassesOwn.never (fB (xv 0)) (xgn 2) (xb (uY PassesOwn.never (xw (Ai (xtc jZ (xlV 1 B.len) af) (Aj (xtn (xtv (xcF (HI.is hr) (xa (xiV 1 (qM af)) (xa (xiV 1 (qM af)) (xa (xv 2) xa0))))))))) (xb1 (EJ 1)))
  (xb1 (u9 1 (xv 2)))))
  (xb1 (iV 1 (bu (xv 1))))))
theorem yv:FnScope ["points","unlike","below","above","corners"] ["points"] (ak (top 8)):=⟨rfl,rfl,rfl,by decide +kernel,rfl,by decide +kernel,by decide +kernel⟩
theorem zN (D:DefAt K "hull" (top 8)) (KI:K.In h) (GN:h.Ns mainGlobals mg) (B:Bi mg) (Hr:FunIn P w K mg base "chain" 3 fz):FunIn P w K mg base "hull" 4 jh:=by
 have nd:=yv.nd
 refine aO D KI GN yv (fun _ _ _ _ _ _ us hl=>match us,hl with | [_],_=>rfl) (fun f cdv A outer s H Hs E hr=>?_)
 have hu:=aK hr
 exact(xb (aE 1 (xss (mS (jM ["point"] iP j5 (fun _ _ _ _ _ _ _ nd2=>(xgn 0)) (fun _ _ _ _ _ _ _ nd2=>(fA (xa (xiV 0 af) (xa (xiV 0 af) xa0))))) (fB (xv 0))) hu B.sorted B.set))
  (xb (aE 2 (xcF (Hr.is hr) (xa (xv 1) xa0)))
  (xb (aE 3 (xcF (Hr.is hr) (xa (EI (xv 1) B.list B.reversed) xa0)))
  (xb (aE 4 (xop ax (xsl (xv 2) xo0 (xo (qM af))) (xsl (xv 3) xo0 (xo (qM af)))))
  (xb (c9 (xtc fE (xlV 4 B.len) af) (xb1 qL) xb0)
  (xb1 (bu (xv 4))))))))
theorem tY:FnScope ["point","S"] ["point","S"] (ak (top 16)):=⟨rfl,rfl,rfl,by decide +kernel,rfl,by decide +kernel,by decide +kernel⟩
theorem uG (D:DefAt K "put_at" (top 16)) (KI:K.In h) (GN:h.Ns mainGlobals mg) (B:Bi mg) (HH:FunIn P w K mg base "spot" 2 dU):FunIn P w K mg base "put_at" 3 dv:=by
 have nd:=tY.nd
 refine aO D KI GN tY (fun _ _ _ _ _ _ us hl=>match us,hl with | [_,_],_=>rfl) (fun f cdv A outer s H Hs E hr=>?_)
 have hu:=aK hr
 exact(xb1 (bu (xcF (HH.is hr) (xa (xop ax (xop ag (xiV 0 af) (xiV 1 af)) (xiV 1 af)) (xa (xop ax (xop ag (xiV 0 af) (xiV 1 af)) (xiV 1 af)) (xa (xiV 1 af) xa0))))))
theorem vk:FnScope ["corners","following"] ["corners"] (ak (top 21)):=⟨rfl,rfl,rfl,by decide +kernel,rfl,by decide +kernel,by decide +kernel⟩
theorem wX (D:DefAt K "sides" (top 21)) (KI:K.In h) (GN:h.Ns mainGlobals mg) (B:Bi mg) :FunIn P w K mg base "sides" 1 dH:=by
 have nd:=vk.nd
 refine aO D KI GN vk (fun _ _ _ _ _ _ us hl=>match us,hl with | [_],_=>rfl) (fun f cdv A outer s H Hs E hr=>?_)
 have hu:=aK hr
 exact(xb (aE 1 (xop ax (xsl (xv 0) (xo af) xo0) (xsl (xv 0) xo0 (xo af))))
  (xb1 (bu (EH (xv 0) (xv 1) B.list B.zip))))
theorem pJ:FnScope ["S","Q","x","y"] ["S","Q"] (ak (top 18)):=⟨rfl,rfl,rfl,by decide +kernel,rfl,by decide +kernel,by decide +kernel⟩
theorem qh (D:DefAt K "way_from" (top 18)) (KI:K.In h) (GN:h.Ns mainGlobals mg) (B:Bi mg) (HH:FunIn P w K mg base "spot" 2 dU):FunIn P w K mg base "way_from" 3 fj:=by
 have nd:=pJ.nd
 refine aO D KI GN pJ (fun _ _ _ _ _ _ us hl=>match us,hl with | [_,_],_=>rfl) (fun f cdv A outer s H Hs E hr=>?_)
 have hu:=aK hr
 exact(xb (aE 2 (xop au (xop ag (xiV 1 af) (xiV 0 af)) (xop ag (xiV 0 af) (xiV 1 af))))
  (xb (aE 3 (xop au (xop ag (xiV 1 af) (xiV 0 af)) (xop ag (xiV 0 af) (xiV 1 af))))
  (xb1 (bu (xcF (HH.is hr) (xa (xv 2) (xa (xv 3) (xa (xop ag (xiV 0 af) (xiV 1 af)) xa0))))))))
theorem vj:FnScope ["corners","S","Q","seen","hands","nearest"] ["corners","S","Q"] (ak (top 22)):=⟨rfl,rfl,rfl,by decide +kernel,rfl,by decide +kernel,by decide +kernel⟩
theorem wW (D:DefAt K "where" (top 22)) (KI:K.In h) (GN:h.Ns mainGlobals mg) (B:Bi mg) (HC:FunIn P w K mg base "left_by" 1 dB) (HG:FunIn P w K mg base "sides" 1 dH) (HK:FunIn P w K mg base "way_from" 3 fj):FunIn P w K mg base "where" 4 iK:=by
 have nd:=vj.nd
 refine aO D KI GN vj (fun _ _ _ _ _ _ us hl=>match us,hl with | [_,_,_],_=>rfl) (fun f cdv A outer s H Hs E hr=>?_)
 have hu:=aK hr
 exact(xb (aE 3 (xcF (HK.is hr) (xa (xv 1) (xa (xv 2) xa0))))
  (xb (kX 4 (jM ["side"] (cap 3 "seen" iP) j5 (fun _ _ _ _ _ _ _ nd2=>(xgn 0)) (fun _ _ _ _ _ _ _ nd2=>(xcF (HC.is hr) (xa (xiV 0 af) (xa (xiV 0 af) (xa (xv 1) xa0)))))) (fB (xcF (HG.is hr) (xa (xv 0) xa0))))
  (xb (aE 5 (xcB (oY rfl) B.min l8 (xa (xv 4) xa0)))
  (xb (c9 (xtc jZ (xv 5) af) (xb1 (bu af)) xb0)
  (xb (c9 (xtc (bK hu) (xv 5) af) (xb1 (bu af)) xb0)
  (xb1 (bu (qM af))))))))
theorem jo:FnScope ["corners","S","others","D","spots"] ["corners","S","others","D"] (ak (top 29)):=⟨rfl,rfl,rfl,by decide +kernel,rfl,by decide +kernel,by decide +kernel⟩
theorem jw (D:DefAt K "corners_within" (top 29)) (KI:K.In h) (GN:h.Ns mainGlobals mg) (B:Bi mg) (HE:FunIn P w K mg base "put_at" 3 dv) (HL:FunIn P w K mg base "where" 4 iK):FunIn P w K mg base "corners_within" 5 a9:=by
 have nd:=jo.nd
 refine aO D KI GN jo (fun _ _ _ _ _ _ us hl=>match us,hl with | [_,_,_,_],_=>rfl) (fun f cdv A outer s H Hs E hr=>?_)
 have hu:=aK hr
 exact(xb (kX 4 (jM ["corner"] (cap 1 "S" iP) j5 (fun _ _ _ _ _ _ _ nd2=>(xgn 0)) (fun _ _ _ _ _ _ _ nd2=>(xcF (HE.is hr) (xa (xv 0) (xa (xv 1) xa0))))) (fB (xv 0)))
  (xb1 (bu (u5 (u7 ["Q"] (cap 2 "others" (cap 3 "D" iP)) j5 (fun _ _ _ _ _ _ _ nd2=>(xgn 0)) (fun _ _ _ _ _ _ _ nd2=>(xv 0)) (fun _ _ _ _ _ _ _ nd2=>(xtc BK (xcF (HL.is hr) (xa (xv 1) (xa (xv 2) (xa (xv 0) xa0)))) af))) (fB (xv 4))))))
theorem tZ:FnScope ["one","other"] ["one","other"] (ak (top 24)):=⟨rfl,rfl,rfl,by decide +kernel,rfl,by decide +kernel,by decide +kernel⟩
theorem uH (D:DefAt K "across" (top 24)) (KI:K.In h) (GN:h.Ns mainGlobals mg) (B:Bi mg) :FunIn P w K mg base "across" 1 cv:=by
 have nd:=tZ.nd
 refine aO D KI GN tZ (fun _ _ _ _ _ _ us hl=>match us,hl with | [_,_],_=>rfl) (fun f cdv A outer s H Hs E hr=>?_)
 have hu:=aK hr
 exact(xb1 (bu (xop au (xop ag (xiV 0 af) (xiV 1 af)) (xop ag (xiV 0 af) (xiV 1 af)))))
theorem qZ:FnScope ["S","V","t","x","y"] ["S","V","t"] (ak (top 17)):=⟨rfl,rfl,rfl,by decide +kernel,rfl,by decide +kernel,by decide +kernel⟩
theorem rL (D:DefAt K "gone_on" (top 17)) (KI:K.In h) (GN:h.Ns mainGlobals mg) (B:Bi mg) (HH:FunIn P w K mg base "spot" 2 dU):FunIn P w K mg base "gone_on" 3 eR:=by
 have nd:=qZ.nd
 refine aO D KI GN qZ (fun _ _ _ _ _ _ us hl=>match us,hl with | [_,_,_],_=>rfl) (fun f cdv A outer s H Hs E hr=>?_)
 have hu:=aK hr
 exact(xb (aE 3 (xop ax (xop ag (xiV 0 af) (xiV 2 af)) (xop ag (xop ag (xiV 1 af) (xiV 2 af)) (xiV 0 af))))
  (xb (aE 4 (xop ax (xop ag (xiV 0 af) (xiV 2 af)) (xop ag (xop ag (xiV 1 af) (xiV 2 af)) (xiV 0 af))))
  (xb1 (bu (xcF (HH.is hr) (xa (xv 3) (xa (xv 4) (xa (xop ag (xiV 0 af) (xiV 2 af)) xa0))))))))
theorem qY:FnScope ["top","bottom"] ["top","bottom"] (ak (top 26)):=⟨rfl,rfl,rfl,by decide +kernel,rfl,by decide +kernel,by decide +kernel⟩
theorem rK (D:DefAt K "is_part" (top 26)) (KI:K.In h) (GN:h.Ns mainGlobals mg) (B:Bi mg) :FunIn P w K mg base "is_part" 1 eO:=by
 have nd:=qY.nd
 refine aO D KI GN qY (fun _ _ _ _ _ _ us hl=>match us,hl with | [_,_],_=>rfl) (fun f cdv A outer s H Hs E hr=>?_)
 have hu:=aK hr
 exact(xb (c9 (xtc fE (xv 1) af) (xb1 (bu (u6 ou ou (xv 1) (xv 0) af))) xb0)
  (xb1 (bu (u6 ou ou af (xv 0) (xv 1)))))
theorem qW:FnScope ["top","bottom","common"] ["top","bottom"] (ak (top 12)):=⟨rfl,rfl,rfl,by decide +kernel,rfl,by decide +kernel,by decide +kernel⟩
theorem rH (D:DefAt K "portion" (top 12)) (KI:K.In h) (GN:h.Ns mainGlobals mg) (B:Bi mg) (Hw:FunIn P w K mg base "divisor" 1 c7) (HB:FunIn P w K mg base "is_whole" 1 bS):FunIn P w K mg base "portion" 2 fU:=by
 have nd:=qW.nd
 refine aO D KI GN qW (fun _ _ _ _ _ _ us hl=>match us,hl with | [_,_],_=>rfl) (fun f cdv A outer s H Hs E hr=>?_)
 have hu:=aK hr
 exact(xb (c9 (xw (tH (xtn (xtv (xcF (HB.is hr) (xa (xv 0) xa0)))) (tH (xtn (xtv (xcF (HB.is hr) (xa (xv 1) xa0)))) (AB (xtc (bK hu) (xv 1) af))))) (xb1 qL) xb0)
  (xb (aE 2 (xcF (Hw.is hr) (xa (xv 0) (xa (xv 1) xa0))))
  (xb (c9 (xtc fE (xv 1) af) (xb1 (aE 2 (qM (xv 2)))) xb0)
  (xb1 (bu (fA (xa (xop aP (xv 0) (xv 2)) (xa (xop aP (xv 1) (xv 2)) xa0))))))))
theorem nO:FnScope ["side"] ["side"] (ak (top 25)):=⟨rfl,rfl,rfl,by decide +kernel,rfl,by decide +kernel,by decide +kernel⟩
theorem oJ (D:DefAt K "way_along" (top 25)) (KI:K.In h) (GN:h.Ns mainGlobals mg) (B:Bi mg) :FunIn P w K mg base "way_along" 1 bX:=by
 have nd:=nO.nd
 refine aO D KI GN nO (fun _ _ _ _ _ _ us hl=>match us,hl with | [_],_=>rfl) (fun f cdv A outer s H Hs E hr=>?_)
 have hu:=aK hr
 exact(xb1 (bu (fA (xa (xop au (xiX (xiV 0 af) af) (xiX (xiV 0 af) af)) (xa (xop au (xiX (xiV 0 af) af) (xiX (xiV 0 af) af)) xa0)))))
theorem pM:FnScope ["side","other","D","forth","back","turn","step","way","bottom"] ["side","other","D"] (ak (top 27)):=⟨rfl,rfl,rfl,by decide +kernel,rfl,by decide +kernel,by decide +kernel⟩
theorem qk (D:DefAt K "crossing" (top 27)) (KI:K.In h) (GN:h.Ns mainGlobals mg) (B:Bi mg) (Ho:FunIn P w K mg base "across" 1 cv) (Hx:FunIn P w K mg base "gone_on" 3 eR) (HA:FunIn P w K mg base "is_part" 1 eO) (HD:FunIn P w K mg base "portion" 2 fU) (HE:FunIn P w K mg base "put_at" 3 dv) (HJ:FunIn P w K mg base "way_along" 1 bX) (HN:ConAt K "MIDDLE" [0,0,1]) (KG:∀(y:Str) (C:Addr),dQ K y C→mg y=some (.ref C)):FunIn P w K mg base "crossing" 4 cI:=by
 have nd:=pM.nd
 refine aO D KI GN pM (fun _ _ _ _ _ _ us hl=>match us,hl with | [_,_,_],_=>rfl) (fun f cdv A outer s H Hs E hr=>?_)
 have hu:=aK hr
 exact(xb (aE 3 (xcF (HJ.is hr) (xa (xv 0) xa0)))
  (xb (aE 4 (xcF (HJ.is hr) (xa (xv 1) xa0)))
  (xb (aE 5 (xcF (Ho.is hr) (xa (xv 3) (xa (xv 4) xa0))))
  (xb (c9 (xtc (bK hu) (xv 5) af) (xb1 (bu AD)) xb0)
  (xb (aE 6 (xcF (HJ.is hr) (xa (fA (xa (xiV 0 af) (xa (xiV 1 af) xa0))) xa0)))
  (xb (aE 7 (fA (xa (xop ax (xop ag (xiV 6 af) (xiV 2 af)) (xiV 2 af)) (xa (xop ax (xop ag (xiV 6 af) (xiV 2 af)) (xiV 2 af)) xa0))))
  (xb (aE 8 (xop ag (xv 5) (xiV 2 af)))
  (xb (c9 (xw (tH (xtn (xtv (xcF (HA.is hr) (xa (xcF (Ho.is hr) (xa (xv 7) (xa (xv 4) xa0))) (xa (xv 8) xa0))))) (AB (xtn (xtv (xcF (HA.is hr) (xa (xcF (Ho.is hr) (xa (xv 7) (xa (xv 3) xa0))) (xa (xv 8) xa0)))))))) (xb1 (bu AD)) xb0)
  (xb1 (bu (xcF (Hx.is hr) (xa (xcF (HE.is hr) (xa (xiV 0 af) (xa (AF (x:="MIDDLE") (ns:=[0,0,1]) HN) xa0))) (xa (xv 3) (xa (xcF (HD.is hr) (xa (xcF (Ho.is hr) (xa (xv 7) (xa (xv 4) xa0))) (xa (xv 8) xa0))) xa0))))))))))))))
theorem nR:FnScope ["ones","others","D","found","side","other","S"] ["ones","others","D"] (ak (top 28)):=⟨rfl,rfl,rfl,by decide +kernel,rfl,by decide +kernel,by decide +kernel⟩
theorem oK (D:DefAt K "crossings" (top 28)) (KI:K.In h) (GN:h.Ns mainGlobals mg) (B:Bi mg) (Hu:FunIn P w K mg base "crossing" 4 cI) (HG:FunIn P w K mg base "sides" 1 dH):FunIn P w K mg base "crossings" 5 c8:=by
 have nd:=nR.nd
 refine aO D KI GN nR (fun _ _ _ _ _ _ us hl=>match us,hl with | [_,_,_],_=>rfl) (fun f cdv A outer s H Hs E hr=>?_)
 have hu:=aK hr
 exact(xb (uZ 3 xa0)
  (xb (ji PassesOwn.never (fB (xcF (HG.is hr) (xa (xv 0) xa0))) (xgn 4) (xb1 (ji PassesOwn.never (fB (xcF (HG.is hr) (xa (xv 1) xa0))) (xgn 5) (xb (aE 6 (xcF (Hu.is hr) (xa (xv 4) (xa (xv 5) (xa (xv 2) xa0)))))
  (xb1 (c9 (xtc um (xv 6) AD) (xb1 (u9 3 (xv 6))) xb0))))))
  (xb1 (iV 3 (bu (xv 3))))))
theorem vn:FnScope ["S","Q","left","right"] ["S","Q"] (ak (top 19)):=⟨rfl,rfl,rfl,by decide +kernel,rfl,by decide +kernel,by decide +kernel⟩
theorem w4 (D:DefAt K "ahead" (top 19)) (KI:K.In h) (GN:h.Ns mainGlobals mg) (B:Bi mg) :FunIn P w K mg base "ahead" 1 jL:=by
 have nd:=vn.nd
 refine aO D KI GN vn (fun _ _ _ _ _ _ us hl=>match us,hl with | [_,_],_=>rfl) (fun f cdv A outer s H Hs E hr=>?_)
 have hu:=aK hr
 exact(xb (aE 2 (xop ag (xiV 0 af) (xiV 1 af)))
  (xb (aE 3 (xop ag (xiV 1 af) (xiV 0 af)))
  (xb1 (bu (CV (jj fE (xv 2) (xv 3)) (u4 (AG (jj (bK hu) (xv 2) (xv 3)) (u4 (jj fE (xop ag (xiV 0 af) (xiV 1 af)) (xop ag (xiV 1 af) (xiV 0 af)))))))))))
theorem pL:FnScope ["spots","kept","S","place"] ["spots"] (ak (top 30)):=⟨rfl,rfl,rfl,by decide +kernel,rfl,by decide +kernel,by decide +kernel⟩
theorem qj (D:DefAt K "in_order" (top 30)) (KI:K.In h) (GN:h.Ns mainGlobals mg) (B:Bi mg) (Hq:FunIn P w K mg base "ahead" 1 jL):FunIn P w K mg base "in_order" 2 dC:=by
 have nd:=pL.nd
 refine aO D KI GN pL (fun _ _ _ _ _ _ us hl=>match us,hl with | [_],_=>rfl) (fun f cdv A outer s H Hs E hr=>?_)
 have hu:=aK hr
 exact(xb (uZ 1 xa0)
  (xb (ji PassesOwn.never (fB (xv 0)) (xgn 2) (xb (EM 1 3 (xcB xt B.len PySem.boot_len (xa (u5 (u7 ["Q"] (cap 2 "S" iP) j5 (fun _ _ _ _ _ _ _ nd2=>(xgn 0)) (fun _ _ _ _ _ _ _ nd2=>(xv 0)) (fun _ _ _ _ _ _ _ nd2=>(xtv (xcF (Hq.is hr) (xa (xv 0) (xa (xv 1) xa0)))))) (fB (xv 1))) xa0)))
  (xb1 (EL 1 (xv 3) (xv 2)))))
  (xb1 (iV 1 (bu (xv 1))))))
theorem tX:FnScope ["ones","others","D","found"] ["ones","others","D"] (ak (top 31)):=⟨rfl,rfl,rfl,by decide +kernel,rfl,by decide +kernel,by decide +kernel⟩
theorem uF (D:DefAt K "shared" (top 31)) (KI:K.In h) (GN:h.Ns mainGlobals mg) (B:Bi mg) (Ht:FunIn P w K mg base "corners_within" 5 a9) (Hv:FunIn P w K mg base "crossings" 5 c8) (Hz:FunIn P w K mg base "in_order" 2 dC) (HN:ConAt K "MIDDLE" [0,0,1]) (KG:∀(y:Str) (C:Addr),dQ K y C→mg y=some (.ref C)):FunIn P w K mg base "shared" 6 dP:=by
 have nd:=tX.nd
 refine aO D KI GN tX (fun _ _ _ _ _ _ us hl=>match us,hl with | [_,_,_],_=>rfl) (fun f cdv A outer s H Hs E hr=>?_)
 have hu:=aK hr
 exact(xb (aE 3 (xop ax (xcF (Ht.is hr) (xa (xv 0) (xa (AF (x:="MIDDLE") (ns:=[0,0,1]) HN) (xa (xv 1) (xa (xv 2) xa0))))) (xcF (Ht.is hr) (xa (xv 1) (xa (xv 2) (xa (xv 0) (xa (AF (x:="MIDDLE") (ns:=[0,0,1]) HN) xa0)))))))
  (xb (aE 3 (xop ax (xv 3) (xcF (Hv.is hr) (xa (xv 0) (xa (xv 1) (xa (xv 2) xa0))))))
  (xb1 (bu (xcF (Hz.is hr) (xa (CW (mS (jM ["S"] iP j5 (fun _ _ _ _ _ _ _ nd2=>(xgn 0)) (fun _ _ _ _ _ _ _ nd2=>(fA (xa (xv 0) (xa xbl xa0))))) (fB (xv 3))) hu B.list B.dict) xa0))))))
theorem AS:FnScope ["script","at","cells","big","ones","others","shift","told","tried","gaps"] ["script"] (ak (top 45)):=⟨rfl,rfl,rfl,by decide +kernel,rfl,by decide +kernel,by decide +kernel⟩
theorem Cn {f:Addr} {fd:FuncData} (F:Fun K "law" "law" (top 45) f fd) (B:Bi mg) (Hd:FunIn P w K mg base "_law_big" 1 fk) (He:FunIn P w K mg base "_law_cell" 1 bZ) (Hf:FunIn P w K mg base "_law_directions" 1 aW) (Hg:FunIn P w K mg base "_law_gap" 1 dD) (Hj:FunIn P w K mg base "_law_points" 1 bT) (Hk:FunIn P w K mg base "_law_region_right" 3 aF) (Hl:FunIn P w K mg base "_law_shift" 3 dw) (Hn:FunIn P w K mg base "_law_touch_right" 2 aM) (Hy:FunIn P w K mg base "hull" 4 jh) (HF:FunIn P w K mg base "shared" 6 dP):FnOk P w K mg base (CXG P w) 7 f fd ["script"] (Fsp K 1 qK):=by
 have nd:=AS.nd
 refine B7 F AS (fun cdv A outer s H Hs E hr=>?_)
 have hu:=aK hr
 exact(xb (ji PassesOwn.never (xr3 B.range (xa af (xa (xcB (xr rfl) B.max jf (xa af (xa (xcB (xq rfl) B.min l8 (xa (xlV 0 B.len) (xa af xa0))) xa0))) (xa af xa0)))) (xgn 1) (xb (kX 2 (jM ["k"] (cap 0 "script" (cap 1 "at" iP)) j5 (fun _ _ _ _ _ _ _ nd2=>(xgn 0)) (fun _ _ _ _ _ _ _ nd2=>(xcF (He.is hr) (xa (xv 1) (xa (xop ax (xv 2) (xv 0)) xa0))))) (xr1 B.range (xa af xa0)))
  (xb (aE 3 (xcF (Hd.is hr) (xa (xop aP (xiV 2 af) af) xa0)))
  (xb (aE 4 (xcF (Hy.is hr) (xa (xcF (Hj.is hr) (xa (xiV 2 af) (xa (xiV 2 af) (xa (xv 3) xa0)))) xa0)))
  (xb (aE 5 (xcF (Hy.is hr) (xa (xcF (Hj.is hr) (xa (xiV 2 af) (xa (xiV 2 af) (xa (xv 3) xa0)))) xa0)))
  (xb (aE 6 (xcF (Hl.is hr) (xa (xv 4) (xa (xv 5) (xa (xiV 2 af) (xa (xiV 2 af) (xa (xv 3) xa0)))))))
  (xb (aE 7 (xcF (HF.is hr) (xa (xcT tm B.list tw (xa (xv 4) xa0)) (xa (xcT tm B.list tw (xa (xv 5) xa0)) (xa (xv 6) xa0)))))
  (xb (aE 8 (xcF (Hf.is hr) (xa (xv 4) (xa (xv 5) xa0))))
  (xb (kX 9 (jM ["n"] (cap 4 "ones" (cap 5 "others" (cap 6 "shift" iP))) j5 (fun _ _ _ _ _ _ _ nd2=>(xgn 0)) (fun _ _ _ _ _ _ _ nd2=>(xcF (Hg.is hr) (xa (xv 1) (xa (xv 2) (xa (xv 3) (xa (xv 0) xa0))))))) (fB (xv 8)))
  (xb1 (c9 (xtc jZ (xcB (jF rfl) B.max jf (xa (xv 9) xa0)) af) (xb1 (c9 (xtc (we hu) (xv 7) (tI xa0)) (xb1 (bu xbl)) xb0)) (xb1 (c9 (xtc (bK hu) (xcB (jF rfl) B.max jf (xa (xv 9) xa0)) af) (xb1 (c9 (xtn (xtv (xcF (Hn.is hr) (xa (xv 7) (xa (xv 4) (xa (xv 5) (xa (xv 6) (xa (xiV 8 (yj 9 af)) xa0)))))))) (xb1 (bu xbl)) xb0)) (xb1 (c9 (xtn (xtv (xcF (Hk.is hr) (xa (xv 7) (xa (xv 4) (xa (xv 5) (xa (xv 6) xa0))))))) (xb1 (bu xbl)) xb0)))))))))))))))
  (xb1 (bu xbl)))
end
end Law
namespace Law
open PySem PySem.Spec PyProof.Rows L2 G HM
abbrev Y(p:PV):Option SV:=some (.sh p)
abbrev YI(i:Int):Option SV:=some (.sh (.int i))
abbrev YL(l:List PV):Option SV:=some (.sh (.lst l))
abbrev YT(x y w:Int):PV:=.tup [.int x,.int y,.int w]
abbrev YN(s:PSt):Res Fl:=.ok (.next s)
def gI(x y:Int):Int:=((Nat.gcd x.natAbs y.natAbs:Nat):Int)
theorem zR{x y:Int}(hx:0≤x)(hy:0<y):gI y (x % y)=gI x y:=by
 unfold gI
 congr 1
 have e:(x % y).natAbs=x.natAbs % y.natAbs:=by
  obtain⟨a,rfl⟩:=Int.eq_ofNat_of_zero_le hx
  obtain⟨b,rfl⟩:=Int.eq_ofNat_of_zero_le (Int.le_of_lt hy)
  rw[←Int.natCast_emod];rfl
 rw[e,Nat.gcd_comm y.natAbs,Nat.gcd_comm x.natAbs]
 exact(Nat.gcd_rec y.natAbs x.natAbs).symm
theorem zQ{x:Int}(hx:0≤x):gI x 0=x:=by
 unfold gI;simp;omega
def aI(x:Int):Int:=if x<0 then -x else x
theorem Aw(x:Int):0≤aI x:=by unfold aI;split<;>omega
theorem yd(x:Int):(aI x).natAbs=x.natAbs:=by unfold aI;split<;>omega
theorem Cq(x y:Int):gI (aI x) (aI y)=gI x y:=by unfold gI;rw[yd,yd]
theorem Au(x y:Int):0≤gI x y:=Int.natCast_nonneg _
theorem rO(a b:Int):gI a b ∣ a∧gI a b ∣ b:=by
 unfold gI
 exact⟨Int.ofNat_dvd_left.mpr (Nat.gcd_dvd_left _ _),Int.ofNat_dvd_left.mpr (Nat.gcd_dvd_right _ _)⟩
theorem xm:∀(n:Nat)(x y:Int)(z:Option SV),y.natAbs=n→0≤x→0≤y→∃z',cC hJ ia
  [YI x,YI y,z]=YN [YI (gI x y),YI 0,z']:=by
 intro n
 induction n using Nat.strongRecOn with
 |ind n ih=>
  intro x y z hn hx hy
  rw[ij]
  by_cases h:y=0
  ·subst h
   exact⟨z,by simp[iT,zQ hx]⟩
  ·have h0:0<y:=by omega
   have e:x.fmod y=x % y:=Int.fmod_eq_emod_of_nonneg x hy
   have h1:=Int.emod_nonneg x h
   have h2:=Int.emod_lt_of_pos x h0
   obtain⟨z',hz⟩:=ih (x % y).natAbs (by omega) y (x % y) (YI (x % y)) rfl hy h1
   refine⟨z',?_⟩
   simp[iT,mR,h,oi h,e]
   rw[hz,zR hx h0]
theorem iq(a b:Int):c7 [.int a,.int b]=.ok (.int (gI a b)):=by
 unfold c7
 rw[nZ]
 obtain⟨z',h⟩:=xm _ (aI a) (aI b) none rfl (Aw a) (Aw b)
 simp[iE]
 change fin (Res.bind (cC _ _ [YI (aI a),YI (aI b),none]) _)=_
 rw[h]
 simp[Cq]
theorem ju(i:Int):bS [.int i]=.ok (.bl true):=by
 unfold bS;rw[pQ];simp[gf,fO]
theorem B3(ns:List Int)(k:Int)(hk:0≤k):∃n,bZ [.scr ns,.int k]=.ok (.int n):=by
 unfold bZ;rw[nZ]
 by_cases h:k<ns.length
 ·obtain⟨x,hx,_⟩:=CK hk h
  simp[dN,h,rZ hx]
 ·obtain⟨σ',h1,n,z,rfl⟩:=jz (gg:=gN 3) (c:=fF) (fun σ=>∃n z,σ=[Y (.scr ns),YI k,YI n,z]) (fun p=>∃i,p=.int i)
   (by
    rintro p σ ⟨i,rfl⟩ ⟨n,z,rfl⟩
    refine⟨[Y (.scr ns),YI k,YI n,YI i],[Y (.scr ns),YI k,YI (n*1009+i % 1000003),YI i],rfl,?_,_,_,rfl⟩
    simp[fF])
   (l6 (ns.map PV.int) none (some 3)) (by
    intro p hp
    have hp:=List.mem_of_mem_drop (List.mem_of_mem_take hp)
    obtain⟨i,_,rfl⟩:=List.mem_map.mp hp
    exact⟨i,rfl⟩) [Y (.scr ns),YI k,YI (k*7907+3571),none] ⟨_,_,rfl⟩
  simp[dN,h,pSl]
  rw[h1]
  simp[oh (mulR (i:=n % 2147483647) (j:=n % 2147483647) (by omega) (by omega))]
open Builtin.Int (intBits)
theorem ck{x:Int}{n:Nat}(h:x.natAbs<2 ^ n):intBits x≤n:=by
 unfold intBits
 split
 ·exact Nat.zero_le _
 ·rename_i e
  have h0:x.natAbs≠0:=by
   intro z
   have:x=0:=by omega
   exact e (by simp[this])
  have:=(Nat.log2_lt h0).mpr h
  omega
theorem bits_le{x y:Int}{n:Nat}(h:x.natAbs≤y.natAbs)(hy:intBits y≤n):intBits x≤n:=PyProof.Rows.bits_of_natAbs_le h hy
theorem aq{x y:Int}{m n:Nat}(hx:intBits x≤m)(hy:intBits y≤n)(h:m+n≤134217728):ay (.int x) (.int y)=.ok (.int (x*y)):=oh (PyProof.Rows.mulOk_of_bits hx hy h)
def sg(b:Int)(g:Int):Int:=if b<0 then -g else g
structure Low (t b q r:Int):Prop where
 pos:0<r
 one:gI q r=1
 eq:q*b=t*r
 qb:∀n,intBits t≤n→intBits q≤n
 rb:∀n,intBits b≤n→intBits r≤n
theorem B4{t b:Int}(hb:b≠0):sg b (gI t b)≠0∧(∀n,intBits b≤n→intBits (sg b (gI t b))≤n)∧Low t b (t.fdiv (sg b (gI t b))) (b.fdiv (sg b (gI t b))):=by
 obtain⟨⟨u,hu⟩,⟨v,hv⟩⟩:=rO t b
 have g0:gI t b≠0:=fun z=>by rw[z]at hv;simp at hv;exact hb hv
 have gp:0<gI t b:=by have:=Au t b;omega
 have hne:sg b (gI t b)≠0:=by unfold sg;split<;>omega
 have eq1:t.fdiv (sg b (gI t b))=(if b<0 then -u else u):=by
  have:t=sg b (gI t b)*(if b<0 then -u else u):=by
   unfold sg
   split<;>grind
  conv=>lhs;lhs;rw[this]
  exact Int.mul_fdiv_cancel_left _ hne
 have eq2:b.fdiv (sg b (gI t b))=(if b<0 then -v else v):=by
  have:b=sg b (gI t b)*(if b<0 then -v else v):=by
   unfold sg
   split<;>grind
  conv=>lhs;lhs;rw[this]
  exact Int.mul_fdiv_cancel_left _ hne
 have hvb:v.natAbs≤b.natAbs∧(gI t b).natAbs≤b.natAbs:=by
  have e:b.natAbs=(gI t b).natAbs*v.natAbs:=by rw[←Int.natAbs_mul,←hv]
  have v0:v≠0:=fun z=>by rw[z]at hv;simp at hv;exact hb hv
  have h1:1≤(gI t b).natAbs:=by omega
  have h2:1≤v.natAbs:=by omega
  exact⟨by rw[e];exact Nat.le_mul_of_pos_left _ h1,by rw[e];exact Nat.le_mul_of_pos_right _ h2⟩
 have hut:u.natAbs≤t.natAbs:=by
  have e:t.natAbs=(gI t b).natAbs*u.natAbs:=by rw[←Int.natAbs_mul,←hu]
  have h1:1≤(gI t b).natAbs:=by omega
  rw[e];exact Nat.le_mul_of_pos_left _ h1
 have huv:Nat.gcd u.natAbs v.natAbs=1:=by
  have e1:t.natAbs=(gI t b).natAbs*u.natAbs:=by rw[←Int.natAbs_mul,←hu]
  have e2:b.natAbs=(gI t b).natAbs*v.natAbs:=by rw[←Int.natAbs_mul,←hv]
  have e3:Nat.gcd t.natAbs b.natAbs=(gI t b).natAbs:=by unfold gI;simp
  rw[e1,e2,Nat.gcd_mul_left]at e3
  have h1:0<(gI t b).natAbs:=by omega
  have e4:(gI t b).natAbs*Nat.gcd u.natAbs v.natAbs=(gI t b).natAbs*1:=by rw[Nat.mul_one];exact e3
  exact Nat.eq_of_mul_eq_mul_left h1 e4
 refine⟨hne,fun n hn=>bits_le ?_ hn,?_⟩
 ·unfold sg;split<;>omega
 ·rw[eq1,eq2]
  refine⟨?_,?_,?_,fun n hn=>bits_le ?_ hn,fun n hn=>bits_le ?_ hn⟩
  ·have:v=0∨0<v∨v<0:=by omega
   rcases this with z|z|z
   ·rw[z]at hv;simp at hv;exact absurd hv hb
   ·have:0<gI t b*v:=Int.mul_pos gp z
    rw[if_neg (by omega)];exact z
   ·have:gI t b*v<0:=Int.mul_neg_of_pos_of_neg gp z
    rw[if_pos (by omega)];omega
  ·unfold gI
   split<;>simp[huv]
  ·split<;>grind
  ·split<;>omega
  ·split<;>omega
structure Low3 (x y w p q r:Int):Prop where
 pos:0<r
 one:gI (gI p q) r=1
 ex:p*w=x*r
 ey:q*w=y*r
 pb:∀n,intBits x≤n→intBits p≤n
 qb:∀n,intBits y≤n→intBits q≤n
 rb:∀n,intBits w≤n→intBits r≤n
theorem kM(x y w:Int):gI (gI x y) w=((Nat.gcd (Nat.gcd x.natAbs y.natAbs) w.natAbs:Nat):Int):=by unfold gI;simp
theorem zy{x y w:Int}(hw:w≠0):sg w (gI (gI x y) w)≠0∧(∀n,intBits w≤n→intBits (sg w (gI (gI x y) w))≤n) ∧
  Low3 x y w (x.fdiv (sg w (gI (gI x y) w))) (y.fdiv (sg w (gI (gI x y) w))) (w.fdiv (sg w (gI (gI x y) w))):=by
 have d1:=rO (gI x y) w
 have d2:=rO x y
 obtain⟨a,ha⟩:=Int.dvd_trans d1.1 d2.1
 obtain⟨b,hb⟩:=Int.dvd_trans d1.1 d2.2
 obtain⟨c,hc⟩:=d1.2
 have hN:Nat.gcd (Nat.gcd x.natAbs y.natAbs) w.natAbs=(gI (gI x y) w).natAbs:=by rw[kM];rfl
 have gn:=Au (gI x y) w
 generalize gI (gI x y) w=g at ha hb hc hN gn ⊢
 have g0:g≠0:=fun z=>by rw[z]at hc;simp at hc;exact hw hc
 have gp:0<g:=by omega
 have c0:c≠0:=fun z=>by rw[z]at hc;simp at hc;exact hw hc
 have hne:sg w g≠0:=by unfold sg;split<;>omega
 have div:∀z u:Int,z=g*u→z.fdiv (sg w g)=(if w<0 then -u else u):=fun z u h=>by
  have:z=sg w g*(if w<0 then -u else u):=by
   unfold sg
   split<;>grind
  conv=>lhs;lhs;rw[this]
  exact Int.mul_fdiv_cancel_left _ hne
 have ab:∀z u:Int,z=g*u→u.natAbs≤z.natAbs:=fun z u h=>by
  rw[h,Int.natAbs_mul]
  exact Nat.le_mul_of_pos_left _ (by omega)
 have habc:Nat.gcd (Nat.gcd a.natAbs b.natAbs) c.natAbs=1:=by
  have e1:x.natAbs=g.natAbs*a.natAbs:=by rw[←Int.natAbs_mul,←ha]
  have e2:y.natAbs=g.natAbs*b.natAbs:=by rw[←Int.natAbs_mul,←hb]
  have e3:w.natAbs=g.natAbs*c.natAbs:=by rw[←Int.natAbs_mul,←hc]
  rw[e1,e2,e3,Nat.gcd_mul_left,Nat.gcd_mul_left]at hN
  exact Nat.eq_of_mul_eq_mul_left (show 0<g.natAbs by omega) (by rw[hN,Nat.mul_one])
 refine⟨hne,fun n hn=>bits_le ?_ hn,?_⟩
 ·have:g.natAbs≤w.natAbs:=by rw[hc,Int.natAbs_mul];exact Nat.le_mul_of_pos_right _ (by omega)
  unfold sg;split<;>omega
 ·rw[div x a ha,div y b hb,div w c hc]
  have na:=ab x a ha
  have nb:=ab y b hb
  have nc:=ab w c hc
  refine⟨?_,?_,?_,?_,fun n hn=>bits_le ?_ hn,fun n hn=>bits_le ?_ hn,fun n hn=>bits_le ?_ hn⟩
  ·have:0<c∨c<0:=by omega
   rcases this with z|z
   ·have:0<g*c:=Int.mul_pos gp z
    rw[if_neg (by omega)];exact z
   ·have:g*c<0:=Int.mul_neg_of_pos_of_neg gp z
    rw[if_pos (by omega)];omega
  ·rw[kM]
   split<;>simp[habc]
  ·split<;>grind
  ·split<;>grind
  ·split<;>omega
  ·split<;>omega
  ·split<;>omega
theorem ur{t b:Int}(hb:b≠0)(h9:intBits b≤9000):∃q r,fU [.int t,.int b]=.ok (.tup [.int q,.int r])∧Low t b q r:=by
 obtain⟨hne,hbits,low⟩:=B4 (t:=t) hb
 refine⟨_,_,?_,low⟩
 unfold fU;first|rw[nZ]|rw[re2]
 by_cases h:b<0
 ·simp[fS,ju,hb,iq,h]
  have e:sg b (gI t b) = -gI t b:=if_pos h
  rw[e]at hne hbits low ⊢
  simp[dj (i:=t) hne (hbits 9000 h9),dj (i:=b) hne (hbits 9000 h9)]
 ·simp[fS,ju,hb,iq,h]
  have e:sg b (gI t b)=gI t b:=if_neg h
  rw[e]at hne hbits low ⊢
  simp[dj (i:=t) hne (hbits 9000 h9),dj (i:=b) hne (hbits 9000 h9)]
theorem i9{x y w:Int}(hw:w≠0)(h9:intBits w≤9000):∃p q r,dU [.int x,.int y,.int w]=.ok (YT p q r)∧Low3 x y w p q r:=by
 obtain⟨hne,hbits,low⟩:=zy (x:=x) (y:=y) hw
 refine⟨_,_,_,?_,low⟩
 unfold dU;first|rw[mI]|rw[re3]
 have hb9:=hbits 9000 h9
 by_cases h:w<0
 ·simp[lZ,ju,hw,iq,h]
  have e:sg w (gI (gI x y) w) = -gI (gI x y) w:=if_pos h
  rw[e]at hne hb9 ⊢
  simp[dj (i:=x) hne hb9,dj (i:=y) hne hb9,dj (i:=w) hne hb9]
 ·simp[lZ,ju,hw,iq,h]
  have e:sg w (gI (gI x y) w)=gI (gI x y) w:=if_neg h
  rw[e]at hne hb9 ⊢
  simp[dj (i:=x) hne hb9,dj (i:=y) hne hb9,dj (i:=w) hne hb9]
def PB(n:Nat)(p:Pt):Prop:=intBits p.1≤n∧intBits p.2≤n
theorem b1:intBits (1:Int)≤1:=ck (by decide)
theorem wz{P Q:Pt}{x y w:Int}(hP:PB 400 P)(hQ:PB 400 Q)(hx:intBits x≤4000)(hy:intBits y≤4000)(hw:intBits w≤4000):
  dB [ptP P,ptP Q,YT x y w]=.ok (.int ((Q.1-P.1)*(y-P.2*w)-(Q.2-P.2)*(x-P.1*w))):=by
 have a1:=bits_sub hQ.1 hP.1
 have a2:=bits_sub hQ.2 hP.2
 have a3:=bits_sub (Nat.le_trans hy (show 4000≤4400 by decide)) (bits_mul hP.2 hw)
 have a4:=bits_sub (Nat.le_trans hx (show 4000≤4400 by decide)) (bits_mul hP.1 hw)
 unfold dB;rw[mI]
 simp[iz,ptP,aq hP.1 hw (by decide),aq hP.2 hw (by decide),aq a1 a3 (by decide),aq a2 a4 (by decide)]
theorem zq{P Q R:Pt}(hP:PB 400 P)(hQ:PB 400 Q)(hR:PB 400 R):dt [ptP P,ptP Q,ptP R]=.ok (.bl (decide (0<cr P Q R))):=by
 have h:=wz hP hQ (Nat.le_trans hR.1 (by decide)) (Nat.le_trans hR.2 (by decide)) (Nat.le_trans b1 (by decide))
 unfold dt;rw[mI]
 have e:cr P Q R=(Q.1-P.1)*(R.2-P.2*1)-(Q.2-P.2)*(R.1-P.1*1):=by unfold cr;simp
 rw[e]
 unfold ptP at h ⊢
 simp[d4,h]
theorem mT{p:Pt}(hp:PB 400 p)(x0:Option SV):∀(st:List Pt),(∀q∈st,PB 400 q) →
  cC eJ iJ [x0,some (.own (st.reverse.map ptP)),Y (ptP p)]=YN [x0,some (.own ((ba p st).reverse.map ptP)),Y (ptP p)]
 |[],_=>by rw[ij];simp[eJ,ba]
 |[a],_=>by rw[ij];simp[eJ,ba]
 |b::a::r,h=>by
  have hb:=h b (.head _)
  have ha:=h a (.tail _ (.head _))
  have e:(b::a::r).reverse.map ptP=r.reverse.map ptP++[ptP a,ptP b]:=by simp
  have g2:atR (r.reverse.map ptP++[ptP a,ptP b]) (-2) id=.ok (ptP a):=rZ (G.uT _ _ _)
  have g1:atR (r.reverse.map ptP++[ptP a,ptP b]) (-1) id=.ok (ptP b):=rZ (by
   have:r.reverse.map ptP++[ptP a,ptP b]=(r.reverse.map ptP++[ptP a])++[ptP b]:=by simp
   rw[this];exact G.xT _ _)
  rw[e,ij]
  have hlen:(1:Int)<((r.reverse.map ptP++[ptP a,ptP b]).length:Int):=by rw[List.length_append];simp;omega
  have hc:eJ [x0,some (.own (r.reverse.map ptP++[ptP a,ptP b])),Y (ptP p)]=.ok (!decide (0<cr a b p)):=by
   simp only[eJ,AM,AK,vf,qw,Ed,oW,zV,oX,dr,fh,Cw,xk,wc,ar,BJ,qI,DL,g1,g2,zq ha hb hp,fX,hlen,decide_true,if_true]
  rw[hc]
  by_cases hcr:0<cr a b p
  ·have:ba p (b::a::r)=b::a::r:=by unfold ba;rw[if_pos hcr]
   rw[this,e]
   simp[hcr]
  ·have:ba p (b::a::r)=ba p (a::r):=by
    conv=>lhs;unfold ba
    rw[if_neg hcr]
   rw[this]
   have hpop:iJ [x0,some (.own (r.reverse.map ptP++[ptP a,ptP b])),Y (ptP p)]=YN [x0,some (.own ((a::r).reverse.map ptP)),Y (ptP p)]:=by
    rw[iJ,AU (i:=1) (xs:=r.reverse.map ptP++[ptP a,ptP b]) rfl (by simp)]
    have:(r.reverse.map ptP++[ptP a,ptP b]).dropLast=(a::r).reverse.map ptP:=by
     rw[show r.reverse.map ptP++[ptP a,ptP b]=(r.reverse.map ptP++[ptP a])++[ptP b] by simp,List.dropLast_concat];simp
    rw[this];rfl
   simp only[hcr,decide_false,Bool.not_false,ar,if_true,hpop]
   exact mT hp x0 (a::r) fun q hq=>h q (.tail _ hq)
theorem sy(p:Pt):∀(st:List Pt),∀q∈ba p st,q∈st
 |[],q,h=>h
 |[_],q,h=>h
 |b::a::r,q,h=>by
  unfold ba at h
  split at h
  ·exact h
  ·exact .tail _ (sy p (a::r) q h)
theorem kB(p:Pt):∀(st:List Pt),(ba p st).length≤st.length
 |[]=>Nat.le_refl _
 |[_]=>Nat.le_refl _
 |b::a::r=>by
  unfold ba
  split
  ·exact Nat.le_refl _
  ·exact Nat.le_trans (kB p (a::r)) (by simp)
theorem nv(x0:Option SV):∀(ps st:List Pt)(z:Option SV),(∀q∈ps,PB 400 q)→(∀q∈st,PB 400 q)→st.length+ps.length<1000 →
  ∃z',cO (gN 2) eM (ps.map ptP) [x0,some (.own (st.reverse.map ptP)),z]=YN [x0,some (.own ((ps.foldl (fun st p=>p::ba p st) st).reverse.map ptP)),z']
 |[],st,z,_,_,_=>⟨z,rfl⟩
 |p::ps,st,z,h1,h2,h3=>by
  have hp:=h1 p (.head _)
  have hw:=mT hp x0 st h2
  have hl:((ba p st).reverse.map ptP).length<10000000:=by
   have:=kB p st
   simp only[List.length_cons]at h3
   rw[List.length_map,List.length_reverse];omega
  have hb:eM [x0,some (.own (st.reverse.map ptP)),Y (ptP p)]=YN [x0,some (.own ((p::ba p st).reverse.map ptP)),Y (ptP p)]:=by
   rw[eM,bJ,hw]
   simp only[ar]
   rw[lr (i:=1) (p:=ptP p) rfl hl rfl]
   simp
  obtain⟨z',hz⟩:=nv x0 ps (p::ba p st) (Y (ptP p)) (fun q hq=>h1 q (.tail _ hq)) (fun q hq=>by
   rcases List.mem_cons.mp hq with rfl|hq
   ·exact hp
   ·exact h2 q (sy p st q hq)) (by
   have:=kB p st
   simp only[List.length_cons]at h3 ⊢;omega)
  refine⟨z',?_⟩
  rw[List.map_cons,aX (σ1:=[x0,some (.own (st.reverse.map ptP)),Y (ptP p)]) rfl,hb]
  exact hz
theorem sH{ps:List Pt}(h:∀q∈ps,PB 400 q)(hl:ps.length<1000):fz [.lst (ps.map ptP)]=.ok (.lst ((bE ps).reverse.map ptP)):=by
 obtain⟨z,hz⟩:=nv (YL (ps.map ptP)) ps [] none h (fun q hq=>by simp at hq) (by simpa using hl)
 unfold fz;rw[pQ]
 have hz':cO (gN 2) eM (ps.map ptP) [YL (ps.map ptP),some (.own []),none]=_:=hz
 simp only[kR,bJ,nW,ar,gE,sM]
 show fin (((ae 0 [YL (ps.map ptP),some (.own []),none]).bind xV).bind (fun ps'=>cO (gN 2) eM ps' [YL (ps.map ptP),some (.own []),none]) |>.bind _)=_
 simp only[f9,ar,kT,hz']
 rfl
theorem iI(ps:List Pt):(bE ps).length≤ps.length:=by
 have key:∀(ps st:List Pt),(ps.foldl (fun st p=>p::ba p st) st).length≤st.length+ps.length:=by
  intro ps
  induction ps with
  |nil=>intro st;exact Nat.le_refl _
  |cons p ps ih=>
   intro st
   have:=ih (p::ba p st)
   have:=kB p st
   simp only[List.foldl_cons,List.length_cons]at *
   omega
 have:=key ps []
 rw[List.length_nil,Nat.zero_add]at this
 exact this
theorem w9{ps:List Pt}(h:∀q∈ps,PB 400 q)(hl:ps.length≤63)(rest:DS):
  ∃x0 x1 x2 x3,(ao (av 1 (e1 eW (c6 (itE (ae 0)) (gN 0) gY 1 []))) (ao (av 2 (eA (fun ps=>noErr (fz ps)) (aa (ae 1) aj)))
  (ao (av 3 (eA (fun ps=>noErr (fz ps)) (aa (e1 uj (ae 1)) aj)))
  (ao (av 4 (e2 aS (eSl (ae 2) oNo (oE (e1 jV (eC (.int 1))))) (eSl (ae 3) oNo (oE (e1 jV (eC (.int 1))))))) rest)))) [YL (ps.map ptP),none,none,none,none]=rest [x0,x1,x2,x3,YL ((kn (br ps)).map ptP)]:=by
 have hs:∀q∈br ps,PB 400 q:=fun q hq=>h q ((fH ps q).mp hq)
 have hsl:=mX ps
 have c1:=sH hs (by omega)
 have c2:=sH (ps:=(br ps).reverse) (fun q hq=>hs q (List.mem_reverse.mp hq)) (by rw[List.length_reverse];omega)
 have hc:c6 (itE (ae 0)) (gN 0) gY 1 [] [YL (ps.map ptP),none,none,none,none]=.ok (.lst (ps.map ptP)):=
  fR (xs:=ps) (u:=ptP) (v:=ptP) rfl (fun x _=>by rw[iQ];show noErr (gY [Y (ptP x)])=_;unfold ptP;simp[gY]) (by omega)
 have l1:=iI (br ps)
 have l2:=iI (br ps).reverse
 rw[List.length_reverse]at l2
 refine⟨YL (ps.map ptP),YL ((br ps).map ptP),YL ((bE (br ps)).reverse.map ptP),YL ((bE (br ps).reverse).reverse.map ptP),?_⟩
 simp only[bJ,i5,Ed,hc,ar,rl hl,List.set_cons_succ,List.set_cons_zero,oX,dr,fh,xl,c1,fX,BH (xs:=(br ps).map ptP) (by rw[List.length_map];omega),←List.map_reverse,c2,qw,Ec,DV,FA,xk,Cv,oW,wc,Eh,v9]
 rw[oq (by simp only[List.length_dropLast,List.length_map,List.length_reverse];omega)]
 simp[kn,List.map_dropLast]
theorem B0{ps:List Pt}(h:∀q∈ps,PB 400 q)(hl:ps.length≤63)(hc:¬Col (br ps)):jh [.lst (ps.map ptP)]=.ok (.lst ((kn (br ps)).map ptP)):=by
 have h3:=(nq (jl ps) hc).three
 unfold jh;rw[pQ]
 obtain⟨x0,x1,x2,x3,e⟩:=w9 h hl (ao (sIf (tV (e2 (cy fun i j=>decide (i<j)) (bj 4) (eC (.int 3)))) (fun _=>.stuck) aQ) (aJ (ae 4)))
 show fin (l5 [YL (ps.map ptP),none,none,none,none])=_
 rw[show l5 [YL (ps.map ptP),none,none,none,none]=_ from e]
 have hn:¬((kn (br ps)).length:Int)<3:=by omega
 simp[hn]
def ky(n:Int)(q:Pt):Prop:=-n≤q.1∧q.1≤n∧-n≤q.2∧q.2≤n
theorem pX(c m0 g a b c3:Int):∀(l:List PV)(L:List Pt)(m:Int)(z:Option SV),(∀p∈l,∃i:Int,p=.int i)→(∀q∈L,ky 10 q)→L.length+l.length≤100 →
  ∃(L':List Pt)(m':Int)(z':Option SV),cO (gN 7) cU l [YI c,YI m,YI g,YI a,YI b,YI c3,some (.own (L.map ptP)),z,none,none] =
   YN [YI c,YI m',YI g,YI a,YI b,YI c3,some (.own ((L++L').map ptP)),z',none,none]∧L'.length=l.length∧∀q∈L',ky 10 q
 |[],L,m,z,_,_,_=>⟨[],m,z,by simp,rfl,fun q h=>by simp at h⟩
 |p::l,L,m,z,h1,h2,h3=>by
  obtain⟨i,rfl⟩:=h1 p (.head _)
  have hq:ky 10 (m % 9-2,m / 9 % 9-2):=by unfold ky;simp only;omega
  have hstep:cU [YI c,YI m,YI g,YI a,YI b,YI c3,some (.own (L.map ptP)),YI i,none,none] =
    YN [YI c,YI (m / 81),YI g,YI a,YI b,YI c3,some (.own ((L++[(m % 9-2,m / 9 % 9-2)]).map ptP)),YI i,none,none]:=by
   rw[cU,bJ,lr (i:=6) (p:=ptP (m % 9-2,m / 9 % 9-2)) rfl (by simp only[List.length_map];simp only[List.length_cons]at h3;omega) (by simp[ptP])]
   simp
  obtain⟨L',m',z',e,hl,hn⟩:=pX c m0 g a b c3 l (L++[(m % 9-2,m / 9 % 9-2)]) (m / 81) (YI i) (fun p hp=>h1 p (.tail _ hp)) (fun q hq'=>by
   rcases List.mem_append.mp hq' with h|h
   ·exact h2 q h
   ·simp at h;subst h;exact hq) (by simp only[List.length_append,List.length_singleton,List.length_cons,List.length_nil]at *;omega)
  refine⟨(m % 9-2,m / 9 % 9-2)::L',m',z',?_,by simp[hl],fun q hq'=>?_⟩
  ·rw[aX (σ1:=[YI c,YI m,YI g,YI a,YI b,YI c3,some (.own (L.map ptP)),YI i,none,none]) rfl,hstep]
   simp only[ar]
   rw[e]
   simp
  ·rcases List.mem_cons.mp hq' with rfl|h
   ·exact hq
   ·exact hn q h
def gz(q:Pt):Pt:=(q.2,q.1)
def gW(q:Pt):Pt:=(0-q.1,q.2)
def pW(g a u:Int)(q:Pt):Pt:=(g*(q.1+a),g*(q.2+u))
theorem zX(P Q R:Pt):cr (gz P) (gz Q) (gz R) = - cr P Q R:=by unfold cr gz;simp only;grind
theorem xp(P Q R:Pt):cr (gW P) (gW Q) (gW R) = - cr P Q R:=by unfold cr gW;simp only;grind
theorem Cy(g a u:Int)(P Q R:Pt):cr (pW g a u P) (pW g a u Q) (pW g a u R)=g*g*cr P Q R:=by unfold cr pW;simp only;grind
theorem ng{n:Nat}{x m:Int}(h:-m≤x∧x≤m)(hm:m<2 ^ n):intBits x≤n:=ck (by
 have:((2 ^ n:Nat):Int)=2 ^ n:=by simp
 omega)
theorem xC{l r:List Pt}(h:Col l)(s:∀p∈r,p∈l):Col r:=fun x hx y hy z hz=>h x (s x hx) y (s y hy) z (s z hz)
theorem wx(cell more g:Int)(hg:0<g)(hb:intBits g≤100):∃ps:List Pt,bT [.int cell,.int more,.int g]=.ok (.lst (ps.map ptP))∧ps.length≤6∧(∀q∈ps,PB 120 q)∧¬Col ps:=by
 unfold bT;rw[mI]
 have hl0:∃l,aD [.int (cell / 225 % 4)]=.ok l∧(∀p∈l,∃i:Int,p=.int i)∧l.length≤3:=by
  refine⟨cD 0 1 (cell / 225 % 4).toNat,if_pos ⟨by omega,by omega⟩,fun p hp=>?_,?_⟩
  ·obtain⟨i,_,rfl⟩:=lz hp;exact⟨_,rfl⟩
  ·unfold cD;rw[List.length_map,List.length_range];omega
 obtain⟨l,hl,hli,hl3⟩:=hl0
 have hbase:∀q∈[((0:Int),(0:Int)),(1+cell % 5,0),(cell / 25 % 9-2,1+cell / 5 % 5)],ky 10 q:=by
  intro q hq
  simp only[List.mem_cons,List.not_mem_nil,or_false]at hq
  rcases hq with rfl|rfl|rfl<;>(unfold ky;simp only;omega)
 obtain⟨L',m',z',e,hlen,hn⟩:=pX cell more g (1+cell % 5) (1+cell / 5 % 5) (cell / 25 % 9-2) l [((0:Int),(0:Int)),(1+cell % 5,0),(cell / 25 % 9-2,1+cell / 5 % 5)] more none hli hbase (by simp only[List.length_cons,List.length_nil];omega)
 generalize hL:[((0:Int),(0:Int)),(1+cell % 5,0),(cell / 25 % 9-2,1+cell / 5 % 5)]++L'=L at e
 have hLn:∀q∈L,ky 10 q:=fun q hq=>by
  rw[←hL]at hq
  rcases List.mem_append.mp hq with h|h
  ·exact hbase q h
  ·exact hn q h
 have hLl:L.length≤6:=by rw[←hL,List.length_append];simp only[List.length_cons,List.length_nil];omega
 have hLc:¬Col L:=fun hc=>by
  have z:=hc (0,0) (by rw[←hL];simp) (1+cell % 5,0) (by rw[←hL];simp) (cell / 25 % 9-2,1+cell / 5 % 5) (by rw[←hL];simp)
  unfold cr at z
  simp only at z
  have:0<(1+cell % 5-0)*(1+cell / 5 % 5-0):=Int.mul_pos (by omega) (by omega)
  have z2:(0-0:Int)*(cell / 25 % 9-2-0)=0:=by simp
  omega
 have turn1:∃L1:List Pt,(sIf (tV (e2 pEq (e2 bU (e2 bC (ae 0) (eC (.int 900))) (eC (.int 2))) (eC (.int 1)))) (cV 6 (gH 6 (itE (ae 6)) (gU [0,1]) cT 2 [])) aQ)
   [YI cell,YI m',YI g,YI (1+cell % 5),YI (1+cell / 5 % 5),YI (cell / 25 % 9-2),some (.own (L.map ptP)),z',none,none] =
   YN [YI cell,YI m',YI g,YI (1+cell % 5),YI (1+cell / 5 % 5),YI (cell / 25 % 9-2),some (.own (L1.map ptP)),z',none,none]∧(∀q∈L1,ky 10 q)∧L1.length=L.length∧¬Col L1:=by
  by_cases h:cell / 900 % 2=1
  ·refine⟨L.map gz,?_,fun q hq=>?_,by simp,fun hc=>hLc fun x hx y hy z hz=>?_⟩
   ·simp only[sq,vf,qw,f9,oW,ar,ip _ (show 0<900 by decide) (by decide),jW _ (show 0<2 by decide),sC,qI,h,decide_true,if_true]
    rw[fK (i:=6) (xs:=L.map ptP) rfl,m5 (xs:=L) (u:=ptP) (v:=fun q=>ptP (gz q)) rfl (fun x _=>by unfold ptP;rw[qQ];show noErr (cT [YI x.1,YI x.2])=_;simp[cT,gz]) (by omega)]
    simp
   ·obtain⟨x,hx,rfl⟩:=List.mem_map.mp hq
    have:=hLn x hx
    unfold ky gz at *;simp only at *;omega
   ·have:=hc (gz x) (List.mem_map_of_mem hx) (gz y) (List.mem_map_of_mem hy) (gz z) (List.mem_map_of_mem hz)
    rw[zX]at this;omega
  ·refine⟨L,?_,hLn,rfl,hLc⟩
   simp only[sq,vf,qw,f9,oW,ar,ip _ (show 0<900 by decide) (by decide),jW _ (show 0<2 by decide),sC,qI,h,decide_false]
   rfl
 obtain⟨L1,e1,hn1,hl1,hc1⟩:=turn1
 have turn2:∃L2:List Pt,(sIf (tV (e2 pEq (e2 bU (e2 bC (ae 0) (eC (.int 1800))) (eC (.int 2))) (eC (.int 1)))) (cV 6 (gH 6 (itE (ae 6)) (gU [0,1]) cS 2 [])) aQ)
   [YI cell,YI m',YI g,YI (1+cell % 5),YI (1+cell / 5 % 5),YI (cell / 25 % 9-2),some (.own (L1.map ptP)),z',none,none] =
   YN [YI cell,YI m',YI g,YI (1+cell % 5),YI (1+cell / 5 % 5),YI (cell / 25 % 9-2),some (.own (L2.map ptP)),z',none,none]∧(∀q∈L2,ky 10 q)∧L2.length=L.length∧¬Col L2:=by
  by_cases h:cell / 1800 % 2=1
  ·refine⟨L1.map gW,?_,fun q hq=>?_,by simp[hl1],fun hc=>hc1 fun x hx y hy z hz=>?_⟩
   ·simp only[sq,vf,qw,f9,oW,ar,ip _ (show 0<1800 by decide) (by decide),jW _ (show 0<2 by decide),sC,qI,h,decide_true,if_true]
    rw[fK (i:=6) (xs:=L1.map ptP) rfl,m5 (xs:=L1) (u:=ptP) (v:=fun q=>ptP (gW q)) rfl (fun x _=>by unfold ptP;rw[qQ];show noErr (cS [YI x.1,YI x.2])=_;simp[cS,gW]) (by omega)]
    simp
   ·obtain⟨x,hx,rfl⟩:=List.mem_map.mp hq
    have:=hn1 x hx
    unfold ky gW at *;simp only at *;omega
   ·have:=hc (gW x) (List.mem_map_of_mem hx) (gW y) (List.mem_map_of_mem hy) (gW z) (List.mem_map_of_mem hz)
    rw[xp]at this;omega
  ·refine⟨L1,?_,hn1,hl1,hc1⟩
   simp only[sq,vf,qw,f9,oW,ar,ip _ (show 0<1800 by decide) (by decide),jW _ (show 0<2 by decide),sC,qI,h,decide_false]
   rfl
 obtain⟨L2,e2',hn2,hl2,hc2⟩:=turn2
 have hco:∀x∈L2,intBits (x.1+(cell / 3600 % 61-30))≤8∧intBits (x.2+(cell / 219600 % 61-30))≤8:=fun x hx=>by
  have:=hn2 x hx
  unfold ky at this
  exact⟨ng (m:=60) (by omega) (by decide),ng (m:=60) (by omega) (by decide)⟩
 refine⟨L2.map (pW g (cell / 3600 % 61-30) (cell / 219600 % 61-30)),?_,by rw[List.length_map,hl2];exact hLl,fun q hq=>?_,fun hc=>hc2 fun x hx y hy z hz=>?_⟩
 ·have hlast:c6 (itE (ae 6)) (gU [0,1]) cR 2 [2,8,9] [YI cell,YI m',YI g,YI (1+cell % 5),YI (1+cell / 5 % 5),YI (cell / 25 % 9-2),YL (L2.map ptP),z',YI (cell / 3600 % 61-30),YI (cell / 219600 % 61-30)] =
    .ok (.lst (L2.map fun x=>ptP (pW g (cell / 3600 % 61-30) (cell / 219600 % 61-30) x))):=
   fR (xs:=L2) (u:=ptP) (v:=fun x=>ptP (pW g (cell / 3600 % 61-30) (cell / 219600 % 61-30) x)) rfl (fun x hx=>by
    have hm1:=aq hb (hco x hx).1 (by decide)
    have hm2:=aq hb (hco x hx).2 (by decide)
    unfold ptP
    rw[qQ]
    show noErr (cR [YI x.1,YI x.2,YI g,YI (cell / 3600 % 61-30),YI (cell / 219600 % 61-30)])=_
    simp[cR,hm1,hm2,pW]) (by omega)
  have pre:∀rest:DS,(ao (av 3 (e2 aS (eC (.int 1)) (e2 bU (ae 0) (eC (.int 5))))) (ao (av 4 (e2 aS (eC (.int 1)) (e2 bU (e2 bC (ae 0) (eC (.int 5))) (eC (.int 5)))))
    (ao (av 5 (e2 a7 (e2 bU (e2 bC (ae 0) (eC (.int 25))) (eC (.int 9))) (eC (.int 2))))
    (ao (lq 6 (aa (eA cN (aa (eC (.int 0)) (aa (eC (.int 0)) aj))) (aa (eA cN (aa (ae 3) (aa (eC (.int 0)) aj))) (aa (eA cN (aa (ae 5) (aa (ae 4) aj))) aj)))) rest))))
    [YI cell,YI more,YI g,none,none,none,none,none,none,none] =
    rest [YI cell,YI more,YI g,YI (1+cell % 5),YI (1+cell / 5 % 5),YI (cell / 25 % 9-2),some (.own ([((0:Int),(0:Int)),(1+cell % 5,0),(cell / 25 % 9-2,1+cell / 5 % 5)].map ptP)),none,none,none]:=by
   intro rest
   simp[lq,ptP]
  change fin (cQ [YI cell,YI more,YI g,none,none,none,none,none,none,none])=_
  rw[show cQ [YI cell,YI more,YI g,none,none,none,none,none,none,none]=_ from pre _]
  have hit:(itR aD (aa (e2 bU (e2 bC (ae 0) (eC (.int 225))) (eC (.int 4))) aj)) [YI cell,YI more,YI g,YI (1+cell % 5),YI (1+cell / 5 % 5),YI (cell / 25 % 9-2),some (.own ([((0:Int),(0:Int)),(1+cell % 5,0),(cell / 25 % 9-2,1+cell / 5 % 5)].map ptP)),none,none,none]=.ok l:=by
   simp[hl]
  rw[bJ,gE,hit,ar,e,ar]
  dsimp only
  rw[bJ,e1,ar]
  dsimp only
  rw[bJ,e2',ar]
  dsimp only
  rw[bJ]
  simp only[i5,qw,f9,oW,ar,ip _ (show 0<3600 by decide) (by decide),jW _ (show 0<61 by decide),v7,List.set_cons_succ,List.set_cons_zero]
  rw[bJ]
  simp only[i5,qw,f9,oW,ar,ip _ (show 0<219600 by decide) (by decide),jW _ (show 0<61 by decide),v7,List.set_cons_succ,List.set_cons_zero]
  rw[fK (i:=6) (xs:=L2.map ptP) rfl]
  simp only[vo,List.set_cons_succ,List.set_cons_zero,hlast,ar,sX,List.map_map]
  rfl
 ·obtain⟨x,hx,rfl⟩:=List.mem_map.mp hq
  exact⟨Nat.le_trans (bits_mul hb (hco x hx).1) (by decide),Nat.le_trans (bits_mul hb (hco x hx).2) (by decide)⟩
 ·have:=hc _ (List.mem_map_of_mem hx) _ (List.mem_map_of_mem hy) _ (List.mem_map_of_mem hz)
  rw[Cy]at this
  rcases Int.mul_eq_zero.mp this with h|h
  ·have:=Int.mul_pos hg hg;omega
  ·exact h
structure Body (cs:List Pt):Prop where
 poly:∃l,Poly cs l
 pb:∀q∈cs,PB 120 q
 len:cs.length≤60
 three:3≤cs.length
theorem wB(c m g:Int)(hg:0<g)(hb:intBits g≤100):∃ps cs:List Pt,bT [.int c,.int m,.int g]=.ok (.lst (ps.map ptP))∧jh [.lst (ps.map ptP)]=.ok (.lst (cs.map ptP))∧Body cs:=by
 obtain⟨ps,hp,hl,hpb,hc⟩:=wx c m g hg hb
 have hc':¬Col (br ps):=fun z=>hc (xC z fun p hp=>(fH ps p).mpr hp)
 have P:=nq (jl ps) hc'
 refine⟨ps,kn (br ps),hp,B0 (fun q hq=>⟨Nat.le_trans (hpb q hq).1 (by decide),Nat.le_trans (hpb q hq).2 (by decide)⟩) (by omega) hc',⟨_,P⟩,fun q hq=>hpb q ((fH ps q).mp (P.sub q hq)),?_,P.three⟩
 have h1:=iI (br ps)
 have h2:=iI (br ps).reverse
 have h3:=mX ps
 unfold kn
 simp only[List.length_append,List.length_dropLast,List.length_reverse]at *
 omega
theorem DJ{m n:Nat}{q:Pt}(h:PB m q)(hm:m≤n):PB n q:=⟨Nat.le_trans h.1 hm,Nat.le_trans h.2 hm⟩
theorem D1(c:Int):∃g,fk [.int c]=.ok (.int g)∧0<g∧intBits g≤100:=by
 unfold fk;rw[pQ]
 by_cases h:c % 2=0
 ·exact⟨1,by simp[e9,h],by decide,Nat.le_trans (ck (n:=1) (by decide)) (by decide)⟩
 ·exact⟨1+c / 2 % 1000000000000,by simp[e9,h],by omega,ck (by omega)⟩
theorem b3{x:Int}(h:-8<x∧x<8):intBits x≤3:=ck (by omega)
theorem b7{x:Int}(h:-128<x∧x<128):intBits x≤7:=ck (by omega)
structure Shf (x y w:Int):Prop where
 pos:0<w
 xb:intBits x≤200
 yb:intBits y≤200
 wb:intBits w≤200
theorem kI{x y w p q r:Int}(low:Low3 x y w p q r)(hx:intBits x≤200)(hy:intBits y≤200)(hw:intBits w≤200):Shf p q r:=⟨low.pos,low.pb _ hx,low.qb _ hy,low.rb _ hw⟩
theorem zt{c1 c2:List Pt}(B1:Body c1)(B2:Body c2)(cell more g:Int)(hb:intBits g≤100):
  ∃p q r,dw [.lst (c1.map ptP),.lst (c2.map ptP),.int cell,.int more,.int g]=.ok (YT p q r)∧Shf p q r:=by
 have n1:=B1.three
 have n2:=B2.three
 obtain⟨k1,k2⟩:=sW (a:=cell / 4) (n:=c1.length) (by omega)
 obtain⟨j1,j2⟩:=sW (a:=cell / 32) (n:=c2.length) (by omega)
 have e1:bU (.int (cell / 4)) (.int (c1.length:Int))=.ok (.int ((cell / 4).fmod c1.length)):=oi (by omega)
 have e2:bU (.int (cell / 32)) (.int (c2.length:Int))=.ok (.int ((cell / 32).fmod c2.length)):=oi (by omega)
 generalize (cell / 4).fmod c1.length=k at *
 generalize (cell / 32).fmod c2.length=j at *
 obtain⟨f,hf,a1⟩:=l9 (cs:=c1) (k:=k-1) (by omega) (by omega)
 obtain⟨l,hl,a2⟩:=l9 (cs:=c1) (k:=k) (by omega) (by omega)
 obtain⟨o,ho,a3⟩:=l9 (cs:=c2) (k:=j) (by omega) (by omega)
 obtain⟨z1,hz1,a4⟩:=l9 (cs:=c1) (k:=0) (by omega) (by omega)
 obtain⟨z2,hz2,a5⟩:=l9 (cs:=c2) (k:=0) (by omega) (by omega)
 have F:=B1.pb f hf
 have Lp:=B1.pb l hl
 have O:=B2.pb o ho
 have Z1:=B1.pb z1 hz1
 have Z2:=B2.pb z2 hz2
 have pb:intBits (cell / 256 % 5)≤3:=b3 (by omega)
 have m1:=aq pb (bits_sub Lp.1 F.1) (by decide)
 have m2:=aq pb (bits_sub Lp.2 F.2) (by decide)
 have b4:intBits (4:Int)≤3:=b3 (by decide)
 have b7':intBits (7:Int)≤3:=b3 (by decide)
 have X0:intBits (4*f.1+cell / 256 % 5*(l.1-f.1)-4*o.1)≤130:=Nat.le_trans (bits_sub (bits_add (bits_mul b4 F.1) (bits_mul pb (bits_sub Lp.1 F.1))) (bits_mul b4 O.1)) (by decide)
 have Y0:intBits (4*f.2+cell / 256 % 5*(l.2-f.2)-4*o.2)≤130:=Nat.le_trans (bits_sub (bits_add (bits_mul b4 F.2) (bits_mul pb (bits_sub Lp.2 F.2))) (bits_mul b4 O.2)) (by decide)
 unfold dw;rw[Dc]
 by_cases h1:cell % 4=1
 ·have w1:intBits (more % 9-4)≤7:=b7 (by omega)
  have w2:intBits (more / 9 % 9-4)≤7:=b7 (by omega)
  have r1:=aq hb w1 (by decide)
  have r2:=aq hb w2 (by decide)
  obtain⟨p,q,r,hs,low⟩:=i9 (x:=4*f.1+cell / 256 % 5*(l.1-f.1)-4*o.1+g*(more % 9-4)) (y:=4*f.2+cell / 256 % 5*(l.2-f.2)-4*o.2+g*(more / 9 % 9-4)) (w:=4) (by decide) (Nat.le_trans b4 (by decide))
  refine⟨p,q,r,?_,kI low (Nat.le_trans (bits_add X0 (bits_mul hb w1)) (by decide)) (Nat.le_trans (bits_add Y0 (bits_mul hb w2)) (by decide)) (Nat.le_trans b4 (by decide))⟩
  simp[cj,e1,e2,a1,a2,a3,m1,m2,h1,r1,r2,hs]
 ·by_cases h2:cell % 4=2
  ·have w1:intBits (more % 81-40)≤7:=b7 (by omega)
   have w2:intBits (more / 81 % 81-40)≤7:=b7 (by omega)
   have r1:=aq hb w1 (by decide)
   have r2:=aq hb w2 (by decide)
   obtain⟨p,q,r,hs,low⟩:=i9 (x:=4*(z1.1-z2.1)+g*(more % 81-40)) (y:=4*(z1.2-z2.2)+g*(more / 81 % 81-40)) (w:=4) (by decide) (Nat.le_trans b4 (by decide))
   refine⟨p,q,r,?_,kI low (Nat.le_trans (bits_add (bits_mul b4 (bits_sub Z1.1 Z2.1)) (bits_mul hb w1)) (by decide)) (Nat.le_trans (bits_add (bits_mul b4 (bits_sub Z1.2 Z2.2)) (bits_mul hb w2)) (by decide)) (Nat.le_trans b4 (by decide))⟩
   simp[cj,e1,e2,a1,a2,a3,a4,a5,m1,m2,h2,r1,r2,hs]
  ·by_cases h3:cell % 4=3
   ·have w1:intBits (more % 3)≤3:=b3 (by omega)
    have w2:intBits (more / 3 % 3)≤3:=b3 (by omega)
    have o1:intBits (1:Int)≤1:=ck (by decide)
    obtain⟨p,q,r,hs,low⟩:=i9 (x:=7*(4*f.1+cell / 256 % 5*(l.1-f.1)-4*o.1)+more % 3-1) (y:=7*(4*f.2+cell / 256 % 5*(l.2-f.2)-4*o.2)+more / 3 % 3-1) (w:=28) (by decide) (Nat.le_trans (ck (n:=5) (by decide)) (by decide))
    refine⟨p,q,r,?_,kI low (Nat.le_trans (bits_sub (bits_add (bits_mul b7' X0) w1) o1) (by decide)) (Nat.le_trans (bits_sub (bits_add (bits_mul b7' Y0) w2) o1) (by decide)) (Nat.le_trans (ck (n:=5) (by decide)) (by decide))⟩
    simp[cj,e1,e2,a1,a2,a3,m1,m2,h3,hs]
   ·obtain⟨p,q,r,hs,low⟩:=i9 (x:=4*f.1+cell / 256 % 5*(l.1-f.1)-4*o.1) (y:=4*f.2+cell / 256 % 5*(l.2-f.2)-4*o.2) (w:=4) (by decide) (Nat.le_trans b4 (by decide))
    refine⟨p,q,r,?_,kI low (Nat.le_trans X0 (by decide)) (Nat.le_trans Y0 (by decide)) (Nat.le_trans b4 (by decide))⟩
    simp[cj,e1,e2,a1,a2,a3,m1,m2,h1,h2,h3,hs]
def far(n p:Pt):Int:=p.1*n.1+p.2*n.2
theorem fP{p n:Pt}{a b:Nat}(hp:PB a p)(hn:PB b n):intBits (far n p)≤a+b+1:=by
 have h1:=bits_mul hp.1 hn.1
 have h2:=bits_mul hp.2 hn.2
 have:=bits_add h1 h2
 rw[Nat.max_self]at this
 exact this
theorem oC{cs:List Pt}(h0:cs≠[])(hl:cs.length≤1000):dH [.lst (cs.map ptP)]=.ok (.lst ((ai cs).map sdP)):=by
 cases cs with
 |nil=>exact absurd rfl h0
 |cons c cs=>
  have e:ui (.lst ((c::cs).map ptP)) (.lst ((cs++[c]).map ptP))=.ok (.lst ((ai (c::cs)).map sdP)):=by
   rw[BG (by simp),uX];rfl
  have ea:aS (.lst (cs.map ptP)) (.lst [ptP c])=.ok (.lst ((cs++[c]).map ptP)):=by
   rw[oq (by simp at hl ⊢;omega)];simp
  unfold dH;rw[pQ]
  rw[List.map_append]at e ea
  rw[List.map_cons]at e ⊢
  simp only[List.map_cons,List.map_nil]at e ea
  simp[kQ,v8,wa,ea,e]
def nrm(s:Pt×Pt):Pt:=(s.2.2-s.1.2,s.1.1-s.2.1)
def lo(cs:List Pt)(n:Pt):Int:=match cs with
 |[]=>0
 |c::r=>fL (far n c) (r.map (far n))
def hi(cs:List Pt)(n:Pt):Int:=match cs with
 |[]=>0
 |c::r=>i8 (far n c) (r.map (far n))
theorem f6{cs:List Pt}(h:cs≠[])(n:Pt):(∀q∈cs,lo cs n≤far n q)∧∃q,q∈cs∧far n q=lo cs n:=by
 cases cs with
 |nil=>exact absurd rfl h
 |cons c r=>
  obtain⟨p1,p2,p3⟩:=kF (r.map (far n)) (far n c)
  refine⟨fun q hq=>?_,?_⟩
  ·rcases List.mem_cons.mp hq with rfl|hq
   ·exact p1
   ·exact p2 _ (List.mem_map_of_mem hq)
  ·rcases p3 with z|z
   ·exact⟨c,.head _,z.symm⟩
   ·obtain⟨q,hq,z⟩:=List.mem_map.mp z;exact⟨q,.tail _ hq,z⟩
theorem bF{cs:List Pt}(h:cs≠[])(n:Pt):(∀q∈cs,far n q≤hi cs n)∧∃q,q∈cs∧far n q=hi cs n:=by
 cases cs with
 |nil=>exact absurd rfl h
 |cons c r=>
  obtain⟨p1,p2,p3⟩:=kG (r.map (far n)) (far n c)
  refine⟨fun q hq=>?_,?_⟩
  ·rcases List.mem_cons.mp hq with rfl|hq
   ·exact p1
   ·exact p2 _ (List.mem_map_of_mem hq)
  ·rcases p3 with z|z
   ·exact⟨c,.head _,z.symm⟩
   ·obtain⟨q,hq,z⟩:=List.mem_map.mp z;exact⟨q,.tail _ hq,z⟩
theorem Body.ne{cs:List Pt}(B:Body cs):cs≠[]:=fun z=>by have:=B.three;rw[z]at this;simp at this
theorem zz{cs:List Pt}(B:Body cs){n:Pt}{k:Nat}(hn:PB k n):intBits (lo cs n)≤121+k:=by
 obtain⟨_,q,hq,e⟩:=f6 B.ne n
 rw[←e];exact Nat.le_trans (fP (B.pb q hq) hn) (by omega)
theorem zP{cs:List Pt}(B:Body cs){n:Pt}{k:Nat}(hn:PB k n):intBits (hi cs n)≤121+k:=by
 obtain⟨_,q,hq,e⟩:=bF B.ne n
 rw[←e];exact Nat.le_trans (fP (B.pb q hq) hn) (by omega)
def cE(c1 c2:List Pt)(x y w:Int)(n:Pt):Int:=(lo c2 n-hi c1 n)*w+(x*n.1+y*n.2)
def trn(n:Pt):Pt:=(-n.1,-n.2)
def gu(c1 c2:List Pt):List Pt:=(ai c1).map nrm++(ai c2).map fun s=>trn (nrm s)
theorem wg{cs:List Pt}(B:Body cs){s:Pt×Pt}(h:s∈ai cs):PB 121 (nrm s):=by
 obtain⟨k,ha,hb⟩:=fJ h
 have pa:=B.pb _ (List.mem_of_getElem? ha)
 have pb:=B.pb _ (List.mem_of_getElem? hb)
 exact⟨bits_sub pb.2 pa.2,bits_sub pa.1 pb.1⟩
theorem wj{cs:List Pt}(B:Body cs){s:Pt×Pt}(h:s∈ai cs):nrm s≠(0,0):=fun e=>by
 obtain⟨l,P⟩:=B.poly
 have:=jK P h
 unfold nrm at e
 have e1:=(Prod.mk.injEq ..).mp e
 exact this (Prod.ext (by omega) (by omega))
theorem bits_neg{x:Int}{k:Nat}(h:intBits x≤k):intBits (-x)≤k:=by
 have e:intBits (-x)=intBits x:=by
  unfold intBits
  rw[Int.natAbs_neg]
  by_cases hx:x=0
  ·subst hx;rfl
  ·rw[if_neg (by simp;exact hx),if_neg (by simp;exact hx)]
 rw[e];exact h
theorem tf{c1 c2:List Pt}(B1:Body c1)(B2:Body c2){n:Pt}(h:n∈gu c1 c2):PB 121 n∧n≠(0,0):=by
 rcases List.mem_append.mp h with h|h
 ·obtain⟨s,hs,rfl⟩:=List.mem_map.mp h
  exact⟨wg B1 hs,wj B1 hs⟩
 ·obtain⟨s,hs,rfl⟩:=List.mem_map.mp h
  obtain⟨p1,p2⟩:=wg B2 hs
  refine⟨⟨bits_neg p1,bits_neg p2⟩,fun e=>wj B2 hs ?_⟩
  have e1:=(Prod.mk.injEq ..).mp e
  exact Prod.ext (by have:=e1.1;show(nrm s).1=0;omega) (by have:=e1.2;show(nrm s).2=0;omega)
def comb(a b:Int)(n m:Pt):Pt:=(a*n.1+b*m.1,a*n.2+b*m.2)
theorem xj(a b:Int)(n m p:Pt):far (comb a b n m) p=a*far n p+b*far m p:=by unfold far comb;simp only;grind
theorem xh{cs:List Pt}(h:cs≠[]){a b:Int}(ha:0≤a)(hb:0≤b)(n m:Pt):hi cs (comb a b n m)≤a*hi cs n+b*hi cs m:=by
 obtain⟨_,q,hq,e⟩:=bF h (comb a b n m)
 rw[←e,xj]
 have l1:=Int.mul_le_mul_of_nonneg_left ((bF h n).1 q hq) ha
 have l2:=Int.mul_le_mul_of_nonneg_left ((bF h m).1 q hq) hb
 omega
theorem wC{cs:List Pt}(h:cs≠[]){k:Int}(hk:0≤k)(n:Pt):lo cs (k*n.1,k*n.2)=k*lo cs n:=by
 have f:∀q:Pt,far (k*n.1,k*n.2) q=k*far n q:=fun q=>by unfold far;simp only;grind
 obtain⟨a1,q1,hq1,e1⟩:=f6 h (k*n.1,k*n.2)
 obtain⟨a2,q2,hq2,e2⟩:=f6 h n
 have b1:=a1 q2 hq2
 rw[f,e2]at b1
 have b2:=Int.mul_le_mul_of_nonneg_left (a2 q1 hq1) hk
 rw[←f,e1]at b2
 omega
theorem qq{cs:List Pt}(h:cs≠[]){k:Int}(hk:0≤k)(n:Pt):hi cs (k*n.1,k*n.2)=k*hi cs n:=by
 have f:∀q:Pt,far (k*n.1,k*n.2) q=k*far n q:=fun q=>by unfold far;simp only;grind
 obtain⟨a1,q1,hq1,e1⟩:=bF h (k*n.1,k*n.2)
 obtain⟨a2,q2,hq2,e2⟩:=bF h n
 have b1:=a1 q2 hq2
 rw[f,e2]at b1
 have b2:=Int.mul_le_mul_of_nonneg_left (a2 q1 hq1) hk
 rw[←f,e1]at b2
 omega
theorem lX{c1 c2:List Pt}(h1:c1≠[])(h2:c2≠[]){k:Int}(hk:0≤k){x y w:Int}(n:Pt):cE c1 c2 x y w (k*n.1,k*n.2)=k*cE c1 c2 x y w n:=by
 unfold cE
 rw[wC h2 hk,qq h1 hk]
 simp only
 grind
theorem B5{cs:List Pt}(h:cs≠[])(n:Pt):lo cs (-n.1,-n.2) = - hi cs n:=by
 have f:∀q:Pt,far (-n.1,-n.2) q = - far n q:=fun q=>by unfold far;simp only;grind
 obtain⟨a1,q1,hq1,e1⟩:=f6 h (-n.1,-n.2)
 obtain⟨a2,q2,hq2,e2⟩:=bF h n
 have b1:=a1 q2 hq2
 have b2:=a2 q1 hq1
 rw[f]at b1 e1
 omega
theorem oQ{cs:List Pt}(h:cs≠[])(n:Pt):hi cs (-n.1,-n.2) = - lo cs n:=by
 have f:∀q:Pt,far (-n.1,-n.2) q = - far n q:=fun q=>by unfold far;simp only;grind
 obtain⟨a1,q1,hq1,e1⟩:=bF h (-n.1,-n.2)
 obtain⟨a2,q2,hq2,e2⟩:=f6 h n
 have b1:=a1 q2 hq2
 have b2:=a2 q1 hq1
 rw[f]at b1 e1
 omega
def cro(a b:Pt):Int:=a.1*b.2-a.2*b.1
theorem bB{a b:Int}(ha:0<a)(h:0≤a*b):0≤b:=by
 rcases Int.lt_or_le b 0 with k|k
 ·have:=Int.mul_neg_of_pos_of_neg ha k;omega
 ·exact k
theorem iH{cs:List Pt}(B:Body cs)(u:Pt):∃a n1 n2:Pt,a∈cs∧(∀q∈cs,far u q≤far u a)∧n1∈(ai cs).map nrm∧n2∈(ai cs).map nrm ∧
  (∀q∈cs,far n1 q≤far n1 a)∧(∀q∈cs,far n2 q≤far n2 a)∧0≤cro n1 u∧0≤cro u n2∧0<cro n1 n2:=by
 obtain⟨u1,a,ha,ea⟩:=bF B.ne u
 obtain⟨l,P⟩:=B.poly
 have h3:=B.three
 obtain⟨k,hk,ek⟩:=List.mem_iff_getElem.mp ha
 have ka:cs[k]? = some a:=by rw[List.getElem?_eq_getElem hk,ek]
 have e1:(k+(cs.length-1)+1) % cs.length=k:=by
  rw[show k+(cs.length-1)+1=k+cs.length by omega,Nat.add_mod_right,Nat.mod_eq_of_lt hk]
 have e2:(k+(cs.length-1)+2) % cs.length=(k+1) % cs.length:=by
  rw[show k+(cs.length-1)+2=k+1+cs.length by omega,Nat.add_mod_right]
 obtain⟨p,hp⟩:=P.get (k+(cs.length-1))
 obtain⟨b,hb⟩:=P.get (k+(cs.length-1)+2)
 have ha':cs[(k+(cs.length-1)+1) % cs.length]? = some a:=by rw[e1];exact ka
 have hb':cs[(k+1) % cs.length]? = some b:=by rw[←e2];exact hb
 have E1:=P.edge _ _ _ hp ha'
 have E2:=P.edge _ _ _ ha' hb
 have T:=P.turn _ _ _ _ hp ha' hb
 have hpm:p∈cs:=List.mem_of_getElem? hp
 have hbm:b∈cs:=List.mem_of_getElem? hb
 have s1:(p,a)∈ai cs:=List.mem_of_getElem? (eG hp (by rw[Nat.mod_add_mod];exact ha'))
 have s2:(a,b)∈ai cs:=List.mem_of_getElem? (eG ka hb')
 have fp:=u1 p hpm
 have fb:=u1 b hbm
 rw[←ea]at fp fb
 refine⟨a,nrm (p,a),nrm (a,b),ha,fun q hq=>by rw[ea];exact u1 q hq,List.mem_map_of_mem s1,List.mem_map_of_mem s2,fun q hq=>?_,fun q hq=>?_,?_,?_,?_⟩
 ·have:=E1 q (P.sub q hq)
  unfold cr at this
  have e:far (nrm (p,a)) a-far (nrm (p,a)) q=(a.1-p.1)*(q.2-p.2)-(a.2-p.2)*(q.1-p.1):=by unfold far nrm;simp only;grind
  omega
 ·have:=E2 q (P.sub q hq)
  unfold cr at this
  have e:far (nrm (a,b)) a-far (nrm (a,b)) q=(b.1-a.1)*(q.2-a.2)-(b.2-a.2)*(q.1-a.1):=by unfold far nrm;simp only;grind
  omega
 ·have e:cro (nrm (p,a)) u=far u a-far u p:=by unfold cro far nrm;simp only;grind
  omega
 ·have e:cro u (nrm (a,b))=far u a-far u b:=by unfold cro far nrm;simp only;grind
  omega
 ·have e:cro (nrm (p,a)) (nrm (a,b))=cr p a b:=by unfold cro nrm cr;simp only;grind
  omega
theorem iu(n q:Pt):far (trn n) q = - far n q:=by unfold far trn;simp only;grind
theorem uL{cs:List Pt}(B:Body cs)(u:Pt):∃a n1 n2:Pt,a∈cs∧(∀q∈cs,far u a≤far u q)∧n1∈(ai cs).map (fun s=>trn (nrm s))∧n2∈(ai cs).map (fun s=>trn (nrm s)) ∧
  (∀q∈cs,far n1 a≤far n1 q)∧(∀q∈cs,far n2 a≤far n2 q)∧0≤cro n1 u∧0≤cro u n2∧0<cro n1 n2:=by
 obtain⟨a,n1,n2,ha,h1,h2,h3,h4,h5,h6,h7,h8⟩:=iH B (trn u)
 obtain⟨s1,hs1,rfl⟩:=List.mem_map.mp h2
 obtain⟨s2,hs2,rfl⟩:=List.mem_map.mp h3
 refine⟨a,trn (nrm s1),trn (nrm s2),ha,fun q hq=>?_,List.mem_map.mpr ⟨_,hs1,rfl⟩,List.mem_map.mpr ⟨_,hs2,rfl⟩,fun q hq=>?_,fun q hq=>?_,?_,?_,?_⟩
 ·have:=h1 q hq;rw[iu,iu]at this;omega
 ·have:=h4 q hq;rw[iu,iu];omega
 ·have:=h5 q hq;rw[iu,iu];omega
 ·have e:cro (trn (nrm s1)) u=cro (nrm s1) (trn u):=by unfold cro trn;simp only;grind
  omega
 ·have e:cro u (trn (nrm s2))=cro (trn u) (nrm s2):=by unfold cro trn;simp only;grind
  omega
 ·have e:cro (trn (nrm s1)) (trn (nrm s2))=cro (nrm s1) (nrm s2):=by unfold cro trn;simp only;grind
  omega
theorem between{p u r:Pt}(h:0<cro p u)(h1:0≤cro p r)(h2:0≤cro r u){a q:Pt}(k1:far p q≤far p a)(k2:far u q≤far u a):far r q≤far r a:=by
 have e:cro p u*(far r a-far r q)=cro r u*(far p a-far p q)+cro p r*(far u a-far u q):=by unfold cro far;grind
 have a1:=Int.mul_nonneg h2 (show 0≤far p a-far p q by omega)
 have a2:=Int.mul_nonneg h1 (show 0≤far u a-far u q by omega)
 have:=bB h (show 0≤cro p u*(far r a-far r q) by omega)
 omega
theorem qE{p u r:Pt}(h:0<cro u p)(h1:0≤cro r p)(h2:0≤cro u r){a q:Pt}(k1:far p q≤far p a)(k2:far u q≤far u a):far r q≤far r a:=by
 have e:cro u p*(far r a-far r q)=cro u r*(far p a-far p q)+cro r p*(far u a-far u q):=by unfold cro far;grind
 have a1:=Int.mul_nonneg h2 (show 0≤far p a-far p q by omega)
 have a2:=Int.mul_nonneg h1 (show 0≤far u a-far u q by omega)
 have:=bB h (show 0≤cro u p*(far r a-far r q) by omega)
 omega
theorem oV{c1 c2:List Pt}(h1:c1≠[])(h2:c2≠[]){x y w:Int}{n a b:Pt}(ha:a∈c1)(hb:b∈c2)(k1:∀q∈c1,far n q≤far n a)(k2:∀q∈c2,far n b≤far n q):
  cE c1 c2 x y w n=((b.1-a.1)*w+x)*n.1+((b.2-a.2)*w+y)*n.2:=by
 obtain⟨l1,ql,hql,el⟩:=f6 h2 n
 obtain⟨u1,qu,hqu,eu⟩:=bF h1 n
 have e1:lo c2 n=far n b:=by have:=l1 b hb;have:=k2 ql hql;omega
 have e2:hi c1 n=far n a:=by have:=u1 a ha;have:=k1 qu hqu;omega
 unfold cE
 rw[e1,e2]
 unfold far
 grind
theorem sat{c1 c2:List Pt}(B1:Body c1)(B2:Body c2){x y w:Int}(hw:0<w){u:Pt}(hu:u≠(0,0))(hg:0≤cE c1 c2 x y w u):∃n,n∈gu c1 c2∧0≤cE c1 c2 x y w n:=by
 refine Classical.byContradiction fun hno=>?_
 have shut:∀n∈gu c1 c2,cE c1 c2 x y w n<0:=fun n hn=>by
  rcases Int.lt_or_le (cE c1 c2 x y w n) 0 with k|k
  ·exact k
  ·exact absurd ⟨n,hn,k⟩ hno
 obtain⟨a,n1,n2,ha,ua,dn1,dn2,an1,an2,cn1,cn2,cn⟩:=iH B1 u
 obtain⟨b,m1,m2,hb,ub,dm1,dm2,bm1,bm2,cm1,cm2,cm⟩:=uL B2 u
 have dn1:n1∈gu c1 c2:=List.mem_append_left _ dn1
 have dn2:n2∈gu c1 c2:=List.mem_append_left _ dn2
 have dm1:m1∈gu c1 c2:=List.mem_append_right _ dm1
 have dm2:m2∈gu c1 c2:=List.mem_append_right _ dm2
 have deg:∀(K s:Int)(r:Pt),0<K→0≤s→r∈gu c1 c2→(K*u.1,K*u.2)=(s*r.1,s*r.2)→False:=fun K s r hK hs hr e=>by
  have g1:=lX B1.ne B2.ne (x:=x) (y:=y) (w:=w) (Int.le_of_lt hK) u
  have g2:=lX B1.ne B2.ne (x:=x) (y:=y) (w:=w) hs r
  rw[e,g2]at g1
  have p1:=Int.mul_nonneg (Int.le_of_lt hK) hg
  rcases Int.lt_or_eq_of_le hs with z|z
  ·have:=Int.mul_neg_of_pos_of_neg z (shut r hr)
   omega
  ·have e':=(Prod.mk.injEq ..).mp e
   rw[←z,Int.zero_mul,Int.zero_mul]at e'
   exact hu (Prod.ext ((Int.mul_eq_zero.mp e'.1).resolve_left (by omega)) ((Int.mul_eq_zero.mp e'.2).resolve_left (by omega)))
 have id1:∀p q:Pt,(cro p q*u.1,cro p q*u.2)=(cro u q*p.1+cro p u*q.1,cro u q*p.2+cro p u*q.2):=fun p q=>Prod.ext (by unfold cro;simp only;grind) (by unfold cro;simp only;grind)
 have pn1:0<cro n1 u:=by
  rcases Int.lt_or_eq_of_le cn1 with z|z
  ·exact z
  ·exact(deg _ _ n1 cn cn2 dn1 (by rw[id1,←z];simp)).elim
 have pn2:0<cro u n2:=by
  rcases Int.lt_or_eq_of_le cn2 with z|z
  ·exact z
  ·exact(deg _ _ n2 cn cn1 dn2 (by rw[id1,←z];simp)).elim
 have pm1:0<cro m1 u:=by
  rcases Int.lt_or_eq_of_le cm1 with z|z
  ·exact z
  ·exact(deg _ _ m1 cm cm2 dm1 (by rw[id1,←z];simp)).elim
 have pm2:0<cro u m2:=by
  rcases Int.lt_or_eq_of_le cm2 with z|z
  ·exact z
  ·exact(deg _ _ m2 cm cm1 dm2 (by rw[id1,←z];simp)).elim
 have anti:∀p q:Pt,cro p q = - cro q p:=fun p q=>by unfold cro;grind
 have self:∀p:Pt,cro p p=0:=fun p=>by unfold cro;grind
 obtain⟨r1,d1,h1a,h1b,h1u,h1n,h1m⟩:∃r1:Pt,r1∈gu c1 c2∧(∀q∈c1,far r1 q≤far r1 a)∧(∀q∈c2,far r1 b≤far r1 q)∧0<cro r1 u∧0≤cro n1 r1∧0≤cro m1 r1:=by
  rcases Int.lt_or_le (cro n1 m1) 0 with z|z
  ·have z':0<cro m1 n1:=by have:=anti m1 n1;omega
   exact⟨n1,dn1,an1,fun q hq=>between pm1 (Int.le_of_lt z') cn1 (bm1 q hq) (ub q hq),pn1,by rw[self];decide,Int.le_of_lt z'⟩
  ·exact⟨m1,dm1,fun q hq=>between pn1 z cm1 (an1 q hq) (ua q hq),bm1,pm1,z,by rw[self];decide⟩
 obtain⟨r2,d2,h2a,h2b,h2u,hK⟩:∃r2:Pt,r2∈gu c1 c2∧(∀q∈c1,far r2 q≤far r2 a)∧(∀q∈c2,far r2 b≤far r2 q)∧0<cro u r2∧0≤cro r1 r2:=by
  have k1:0≤cro r1 n2:=by
   have e:cro n1 u*cro r1 n2=cro r1 u*cro n1 n2+cro n1 r1*cro u n2:=by unfold cro;grind
   have a1:=Int.mul_nonneg (Int.le_of_lt h1u) (Int.le_of_lt cn)
   have a2:=Int.mul_nonneg h1n cn2
   exact bB pn1 (by omega)
  have k2:0≤cro r1 m2:=by
   have e:cro m1 u*cro r1 m2=cro r1 u*cro m1 m2+cro m1 r1*cro u m2:=by unfold cro;grind
   have a1:=Int.mul_nonneg (Int.le_of_lt h1u) (Int.le_of_lt cm)
   have a2:=Int.mul_nonneg h1m cm2
   exact bB pm1 (by omega)
  rcases Int.lt_or_le (cro m2 n2) 0 with z|z
  ·have z':0<cro n2 m2:=by have:=anti n2 m2;omega
   exact⟨n2,dn2,an2,fun q hq=>qE pm2 (Int.le_of_lt z') cn2 (bm2 q hq) (ub q hq),pn2,k1⟩
  ·exact⟨m2,dm2,fun q hq=>qE pn2 z cm2 (an2 q hq) (ua q hq),bm2,pm2,k2⟩
 have L0:=oV B1.ne B2.ne (x:=x) (y:=y) (w:=w) ha hb ua ub
 have L1:=oV B1.ne B2.ne (x:=x) (y:=y) (w:=w) ha hb h1a h1b
 have L2:=oV B1.ne B2.ne (x:=x) (y:=y) (w:=w) ha hb h2a h2b
 generalize (b.1-a.1)*w+x=α at *
 generalize (b.2-a.2)*w+y=β at *
 have e:cro r1 r2*(α*u.1+β*u.2)=cro u r2*(α*r1.1+β*r1.2)+cro r1 u*(α*r2.1+β*r2.2):=by unfold cro;grind
 rw[←L0,←L1,←L2]at e
 have s1:=Int.mul_neg_of_pos_of_neg h2u (shut r1 d1)
 have s2:=Int.mul_neg_of_pos_of_neg h1u (shut r2 d2)
 have s3:=Int.mul_nonneg hK hg
 omega
def hpA(s:Pt×Pt):Int×Int×Int:=((nrm s).1,(nrm s).2,far (nrm s) s.1)
def hpB(x y w:Int)(s:Pt×Pt):Int×Int×Int:=(w*(nrm s).1,w*(nrm s).2,w*far (nrm s) s.1+(x*(nrm s).1+y*(nrm s).2))
def hps(c1 c2:List Pt)(x y w:Int):List (Int×Int×Int):=(ai c1).map hpA++(ai c2).map (hpB x y w)
theorem dg{cs:List Pt}(B:Body cs){s:Pt×Pt}(h:s∈ai cs):(∀q∈cs,far (nrm s) q≤far (nrm s) s.1)∧s.1∈cs∧s.2∈cs:=by
 obtain⟨l,P⟩:=B.poly
 obtain⟨k,ha,hb⟩:=fJ h
 have hk:k<cs.length:=(List.getElem?_eq_some_iff.mp ha).1
 have ha':cs[k % cs.length]? = some s.1:=by rw[Nat.mod_eq_of_lt hk];exact ha
 refine⟨fun q hq=>?_,List.mem_of_getElem? ha,List.mem_of_getElem? hb⟩
 have:=P.edge k s.1 s.2 ha' hb q (P.sub q hq)
 have e:far (nrm s) s.1-far (nrm s) q=cr s.1 s.2 q:=by unfold far nrm cr;simp only;grind
 omega
theorem pI{cs:List Pt}(B:Body cs){s:Pt×Pt}(h:s∈ai cs):hi cs (nrm s)=far (nrm s) s.1:=by
 obtain⟨u1,q,hq,e⟩:=bF B.ne (nrm s)
 obtain⟨v1,v2,_⟩:=dg B h
 have:=u1 _ v2
 have:=v1 q hq
 omega
theorem pG{cs:List Pt}(B:Body cs):∃Q:Pt,∀n:Pt,n≠(0,0)→far n Q<3*hi cs n:=by
 obtain⟨l,P⟩:=B.poly
 obtain⟨a,ha⟩:=P.get 0
 obtain⟨b,hb⟩:=P.get 1
 obtain⟨c,hc⟩:=P.get 2
 have t:=P.turn 0 a b c ha hb hc
 refine⟨(a.1+b.1+c.1,a.2+b.2+c.2),fun n hn=>?_⟩
 obtain⟨u1,_⟩:=bF B.ne n
 have fa:=u1 a (List.mem_of_getElem? ha)
 have fb:=u1 b (List.mem_of_getElem? hb)
 have fc:=u1 c (List.mem_of_getElem? hc)
 have e:far n (a.1+b.1+c.1,a.2+b.2+c.2)=far n a+far n b+far n c:=by unfold far;simp only;grind
 rw[e]
 by_cases z:far n a=hi cs n∧far n b=hi cs n∧far n c=hi cs n
 ·exfalso
  obtain⟨z1,z2,z3⟩:=z
  have hn':-n.2≠0∨n.1≠0:=by
   by_cases y:n.1=0
   ·exact .inl fun y2=>hn (Prod.ext y (by show n.2=0;omega))
   ·exact .inr y
  have e1:-n.2*(b.2-a.2)-n.1*(b.1-a.1)=0:=by unfold far at z1 z2;grind
  have e2:-n.2*(c.2-a.2)-n.1*(c.1-a.1)=0:=by unfold far at z1 z3;grind
  have:=par hn' e1 e2
  unfold cr at t
  omega
 ·omega
theorem gX(q:Pt):far (0,0) q=0:=by unfold far;simp
theorem sR{cs:List Pt}(h:cs≠[]):hi cs (0,0)=0:=by
 obtain⟨_,q,_,e⟩:=bF h (0,0)
 rw[←e,gX]
theorem kE{cs:List Pt}(B:Body cs){s:Pt×Pt}(h:s∈ai cs):nrm s≠(0,0):=fun e=>by
 obtain⟨l,P⟩:=B.poly
 have:=jK P h
 unfold nrm at e
 have e1:=(Prod.mk.injEq ..).mp e
 exact this (Prod.ext (by omega) (by omega))
section
variable {c1 c2:List Pt}(B1:Body c1)(B2:Body c2){x y w:Int}(hw:0<w)
include B1 B2 hw
theorem wU(shut:∀n:Pt,n≠(0,0)→cE c1 c2 x y w n<0):∃X Y W:Int,0<W∧∀l∈hps c1 c2 x y w,l.1*X+l.2.1*Y<l.2.2*W:=by
 rcases qr (hps c1 c2 x y w) with h|⟨c,hc,C⟩
 ·exact h
 exfalso
 obtain⟨Q1,q1⟩:=pG B1
 obtain⟨Q2,q2⟩:=pG B2
 have inv:∀{a b c:Int},Comb (hps c1 c2 x y w) a b c→∃n m:Pt,a=n.1+w*m.1∧b=n.2+w*m.2∧hi c1 n+(w*hi c2 m+(x*m.1+y*m.2))≤c∧far n Q1+(w*far m Q2+3*(x*m.1+y*m.2))<3*c:=by
  intro a b c C
  induction C with
  |mem h=>
   rcases List.mem_append.mp h with h|h
   ·obtain⟨s,hs,e⟩:=List.mem_map.mp h
    have e1:=(Prod.mk.injEq ..).mp e
    have e2:=(Prod.mk.injEq ..).mp e1.2
    have mx:=pI B1 hs
    have st:=q1 _ (kE B1 hs)
    refine⟨nrm s,(0,0),by simp[←e1.1],by simp[←e2.1],?_,?_⟩
    ·rw[sR B2.ne,←e2.2,mx];simp
    ·rw[gX,←e2.2]
     simp
     omega
   ·obtain⟨s,hs,e⟩:=List.mem_map.mp h
    have e1:=(Prod.mk.injEq ..).mp e
    have e2:=(Prod.mk.injEq ..).mp e1.2
    have mx:=pI B2 hs
    have st:=q2 _ (kE B2 hs)
    have st':=Int.mul_lt_mul_of_pos_left st hw
    refine⟨(0,0),nrm s,by simp[←e1.1],by simp[←e2.1],?_,?_⟩
    ·rw[sR B1.ne,←e2.2,mx];simp
    ·rw[gX,←e2.2]
     have e3:w*(3*hi c2 (nrm s))=3*(w*far (nrm s) s.1):=by rw[mx];grind
     simp
     omega
  | @add a b c a' b' c' k k' hk hk' _ _ ih1 ih2=>
   obtain⟨n,m,e1,e2,e3,e4⟩:=ih1
   obtain⟨n',m',f1,f2,f3,f4⟩:=ih2
   refine⟨comb k k' n n',comb k k' m m',by unfold comb;simp only;rw[e1,f1];grind,by unfold comb;simp only;rw[e2,f2];grind,?_,?_⟩
   ·have s1:=xh B1.ne (Int.le_of_lt hk) (Int.le_of_lt hk') n n'
    have s2:=xh B2.ne (Int.le_of_lt hk) (Int.le_of_lt hk') m m'
    have s2':=Int.mul_le_mul_of_nonneg_left s2 (Int.le_of_lt hw)
    have t1:=Int.mul_le_mul_of_nonneg_left e3 (Int.le_of_lt hk)
    have t2:=Int.mul_le_mul_of_nonneg_left f3 (Int.le_of_lt hk')
    have z1:k*(hi c1 n+(w*hi c2 m+(x*m.1+y*m.2)))+k'*(hi c1 n'+(w*hi c2 m'+(x*m'.1+y*m'.2)))=(k*hi c1 n+k'*hi c1 n')+(w*(k*hi c2 m+k'*hi c2 m')+(x*(k*m.1+k'*m'.1)+y*(k*m.2+k'*m'.2))):=by grind
    show hi c1 (comb k k' n n')+(w*hi c2 (comb k k' m m')+(x*(k*m.1+k'*m'.1)+y*(k*m.2+k'*m'.2)))≤k*c+k'*c'
    omega
   ·have t1:=Int.mul_lt_mul_of_pos_left e4 hk
    have t2:=Int.mul_lt_mul_of_pos_left f4 hk'
    have z1:far (comb k k' n n') Q1+(w*far (comb k k' m m') Q2+3*(x*(comb k k' m m').1+y*(comb k k' m m').2))=k*(far n Q1+(w*far m Q2+3*(x*m.1+y*m.2)))+k'*(far n' Q1+(w*far m' Q2+3*(x*m'.1+y*m'.2))):=by unfold comb far;simp only;grind
    rw[z1]
    have z2:k*(3*c)+k'*(3*c')=3*(k*c+k'*c'):=by grind
    omega
 obtain⟨n,m,e1,e2,e3,e4⟩:=inv C
 by_cases hm:m=(0,0)
 ·have hn:n=(0,0):=by
   rw[hm]at e1 e2
   exact Prod.ext (by show n.1=0;simp at e1;omega) (by show n.2=0;simp at e2;omega)
  rw[hn,hm,gX,gX]at e4
  simp at e4
  omega
 ·have hu:(-m.1,-m.2)≠((0,0):Pt):=fun z=>hm (by have z':=(Prod.mk.injEq ..).mp z;exact Prod.ext (by show m.1=0;omega) (by show m.2=0;omega))
  have g:=shut _ hu
  have en:n=(w*(-m.1,-m.2).1,w*(-m.1,-m.2).2):=Prod.ext (by show n.1=w * -m.1;rw[Int.mul_neg];omega) (by show n.2=w * -m.2;rw[Int.mul_neg];omega)
  rw[en,qq B1.ne (Int.le_of_lt hw)]at e3
  unfold cE at g
  rw[B5 B2.ne]at g
  have z:(-hi c2 m-hi c1 (-m.1,-m.2))*w+(x*(-m.1,-m.2).1+y*(-m.1,-m.2).2) = -(w*hi c1 (-m.1,-m.2)+(w*hi c2 m+(x*m.1+y*m.2))):=by simp only;grind
  omega
end
theorem Ao{L:List (Int×Int×Int)}{X Y W d1 d2:Int}(hW:0<W)(hin:∀l∈L,l.1*X+l.2.1*Y≤l.2.2*W)(hb:∃l∈L,0<l.1*d1+l.2.1*d2):
  ∃t k:Int,0≤t∧0<k∧(∀l∈L,l.1*(X*k+t*d1)+l.2.1*(Y*k+t*d2)≤l.2.2*(W*k))∧(∃l∈L,0<l.1*d1+l.2.1*d2∧l.1*(X*k+t*d1)+l.2.1*(Y*k+t*d2)=l.2.2*(W*k)) ∧
   ((∀l∈L,l.1*X+l.2.1*Y<l.2.2*W)→0<t):=by
 let U:=(L.filter fun l=>decide (0<l.1*d1+l.2.1*d2)).map fun l=>(l.1*d1+l.2.1*d2,l.2.2*W-(l.1*X+l.2.1*Y))
 have hU:U≠[]:=fun z=>by
  obtain⟨l,hl,hp⟩:=hb
  have:(l.1*d1+l.2.1*d2,l.2.2*W-(l.1*X+l.2.1*Y))∈U:=List.mem_map.mpr ⟨l,List.mem_filter.mpr ⟨hl,decide_eq_true hp⟩,rfl⟩
  rw[z]at this;simp at this
 obtain⟨m,hm,hle⟩:=dz U hU (fun l hl=>by
  obtain⟨l',hl',rfl⟩:=List.mem_map.mp hl
  rw[List.mem_filter]at hl'
  exact of_decide_eq_true hl'.2)
 obtain⟨l0,hl0,e0⟩:=List.mem_map.mp hm
 rw[List.mem_filter]at hl0
 have p0:=of_decide_eq_true hl0.2
 have i0:=hin l0 hl0.1
 subst e0
 simp only at hle
 refine⟨l0.2.2*W-(l0.1*X+l0.2.1*Y),l0.1*d1+l0.2.1*d2,by omega,p0,fun l hl=>?_,⟨l0,hl0.1,p0,by grind⟩,fun hs=>by have:=hs l0 hl0.1;omega⟩
 generalize hk:l0.1*d1+l0.2.1*d2=k at *
 generalize ht:l0.2.2*W-(l0.1*X+l0.2.1*Y)=t at *
 have e:l.2.2*(W*k)-(l.1*(X*k+t*d1)+l.2.1*(Y*k+t*d2))=(l.2.2*W-(l.1*X+l.2.1*Y))*k-t*(l.1*d1+l.2.1*d2):=by grind
 have il:=hin l hl
 rcases Int.lt_or_le 0 (l.1*d1+l.2.1*d2) with q|q
 ·have:=hle _ (List.mem_map.mpr ⟨l,List.mem_filter.mpr ⟨hl,decide_eq_true q⟩,rfl⟩)
  simp only at this
  omega
 ·have s1:=Int.mul_nonneg (show 0≤l.2.2*W-(l.1*X+l.2.1*Y) by omega) (Int.le_of_lt p0)
  have s2:=Int.mul_nonpos_of_nonneg_of_nonpos (show 0≤t by omega) q
  omega
def CS(L:List (Int×Int×Int)):Prop:=∀d:Pt,d≠(0,0)→∃l∈L,0<l.1*d.1+l.2.1*d.2
theorem held{c1:List Pt}(B1:Body c1)(c2:List Pt)(x y w:Int):CS (hps c1 c2 x y w):=fun d hd=>by
 obtain⟨a,n1,n2,_,_,h1,h2,_,_,k1,k2,k3⟩:=iH B1 d
 have e:cro n1 n2*(d.1*d.1+d.2*d.2)=cro d n2*(n1.1*d.1+n1.2*d.2)+cro n1 d*(n2.1*d.1+n2.2*d.2):=by unfold cro;grind
 have dp:0<d.1*d.1+d.2*d.2:=by
  have s1:0≤d.1*d.1:=by rcases Int.le_total 0 d.1 with z|z;exact Int.mul_nonneg z z;exact Int.mul_nonneg_of_nonpos_of_nonpos z z
  have s2:0≤d.2*d.2:=by rcases Int.le_total 0 d.2 with z|z;exact Int.mul_nonneg z z;exact Int.mul_nonneg_of_nonpos_of_nonpos z z
  rcases Int.lt_or_le 0 (d.1*d.1+d.2*d.2) with z|z
  ·exact z
  ·exact absurd (Prod.ext ((Int.mul_eq_zero.mp (show d.1*d.1=0 by omega)).elim id id) ((Int.mul_eq_zero.mp (show d.2*d.2=0 by omega)).elim id id)) hd
 have pos:=Int.mul_pos k3 dp
 have put:∀n∈(ai c1).map nrm,0<n.1*d.1+n.2*d.2→∃l∈hps c1 c2 x y w,0<l.1*d.1+l.2.1*d.2:=fun n hn hp=>by
  obtain⟨s,hs,rfl⟩:=List.mem_map.mp hn
  exact⟨hpA s,List.mem_append_left _ (List.mem_map_of_mem hs),hp⟩
 rcases Int.lt_or_le 0 (n1.1*d.1+n1.2*d.2) with z|z
 ·exact put n1 h1 z
 ·rcases Int.lt_or_le 0 (n2.1*d.1+n2.2*d.2) with z2|z2
  ·exact put n2 h2 z2
  ·have:=Int.mul_nonpos_of_nonneg_of_nonpos k2 z
   have:=Int.mul_nonpos_of_nonneg_of_nonpos k1 z2
   omega
theorem va{L:List (Int×Int×Int)}(hL:CS L)(hne:∀l∈L,(l.1,l.2.1)≠((0,0):Pt)){X Y W:Int}(hW:0<W)(hin:∀l∈L,l.1*X+l.2.1*Y<l.2.2*W){u:Pt}(hu:u≠(0,0)):
  ∃p q r:Int,0<r∧(∀l∈L,l.1*p+l.2.1*q≤l.2.2*r)∧(∃l∈L,∃m∈L,l.1*m.2.1-l.2.1*m.1≠0∧l.1*p+l.2.1*q=l.2.2*r∧m.1*p+m.2.1*q=m.2.2*r)∧(u.1*X+u.2*Y)*r<(u.1*p+u.2*q)*W:=by
 obtain⟨t,k,t0,k0,in1,⟨l,hl,lp,le⟩,st⟩:=Ao (d1:=u.1) (d2:=u.2) hW (fun l hl=>Int.le_of_lt (hin l hl)) (hL u hu)
 have tp:=st hin
 have W1:=Int.mul_pos hW k0
 obtain⟨d,hd,dl,du⟩:∃d:Pt,d≠(0,0)∧l.1*d.1+l.2.1*d.2=0∧0≤u.1*d.1+u.2*d.2:=by
  rcases Int.le_total 0 (u.1 * -l.2.1+u.2*l.1) with z|z
  ·refine⟨(-l.2.1,l.1),fun e=>hne l hl ?_,by simp only;grind,z⟩
   have e':=(Prod.mk.injEq ..).mp e
   exact Prod.ext e'.2 (by show l.2.1=0;omega)
  ·refine⟨(l.2.1,-l.1),fun e=>hne l hl ?_,by simp only;grind,by
    have:u.1*l.2.1+u.2 * -l.1 = -(u.1 * -l.2.1+u.2*l.1):=by grind
    simp only;omega⟩
   have e':=(Prod.mk.injEq ..).mp e
   exact Prod.ext (by show l.1=0;omega) e'.1
 obtain⟨t2,k2,t20,k20,in2,⟨m,hm,mp,me⟩,_⟩:=Ao (d1:=d.1) (d2:=d.2) W1 in1 (hL d hd)
 refine⟨(X*k+t*u.1)*k2+t2*d.1,(Y*k+t*u.2)*k2+t2*d.2,W*k*k2,Int.mul_pos W1 k20,in2,⟨l,hl,m,hm,fun z=>?_,?_,me⟩,?_⟩
 ·-- l x m=0 and l . d=0 leave m . d=0
  have hd':d.1≠0∨d.2≠0:=by
   by_cases y:d.1=0
   ·exact .inr fun y2=>hd (Prod.ext y y2)
   ·exact .inl y
  have hl':l.1≠0∨l.2.1≠0:=by
   by_cases y:l.1=0
   ·exact .inr fun y2=>hne l hl (Prod.ext y y2)
   ·exact .inl y
  have a1:l.1*(m.1*d.1+m.2.1*d.2)=0:=by
   have:l.1*(m.1*d.1+m.2.1*d.2)=m.1*(l.1*d.1+l.2.1*d.2)+d.2*(l.1*m.2.1-l.2.1*m.1):=by grind
   rw[this,dl,z];simp
  have a2:l.2.1*(m.1*d.1+m.2.1*d.2)=0:=by
   have:l.2.1*(m.1*d.1+m.2.1*d.2)=m.2.1*(l.1*d.1+l.2.1*d.2)-d.1*(l.1*m.2.1-l.2.1*m.1):=by grind
   rw[this,dl,z];simp
  rcases hl' with z1|z1
  ·have:=(Int.mul_eq_zero.mp a1).resolve_left z1;omega
  ·have:=(Int.mul_eq_zero.mp a2).resolve_left z1;omega
 ·have e1:l.1*((X*k+t*u.1)*k2+t2*d.1)+l.2.1*((Y*k+t*u.2)*k2+t2*d.2)=(l.1*(X*k+t*u.1)+l.2.1*(Y*k+t*u.2))*k2+t2*(l.1*d.1+l.2.1*d.2):=by grind
  rw[e1,le,dl];grind
 ·have e1:(u.1*((X*k+t*u.1)*k2+t2*d.1)+u.2*((Y*k+t*u.2)*k2+t2*d.2))*W-(u.1*X+u.2*Y)*(W*k*k2)=W*(k2*(t*(u.1*u.1+u.2*u.2))+t2*(u.1*d.1+u.2*d.2)):=by grind
  have up:0<u.1*u.1+u.2*u.2:=by
   have s1:0≤u.1*u.1:=by rcases Int.le_total 0 u.1 with z|z;exact Int.mul_nonneg z z;exact Int.mul_nonneg_of_nonpos_of_nonpos z z
   have s2:0≤u.2*u.2:=by rcases Int.le_total 0 u.2 with z|z;exact Int.mul_nonneg z z;exact Int.mul_nonneg_of_nonpos_of_nonpos z z
   rcases Int.lt_or_le 0 (u.1*u.1+u.2*u.2) with z|z
   ·exact z
   ·exact absurd (Prod.ext ((Int.mul_eq_zero.mp (show u.1*u.1=0 by omega)).elim id id) ((Int.mul_eq_zero.mp (show u.2*u.2=0 by omega)).elim id id)) hu
  have p1:=Int.mul_pos k20 (Int.mul_pos tp up)
  have p2:=Int.mul_nonneg t20 du
  have:=Int.mul_pos hW (show 0<k2*(t*(u.1*u.1+u.2*u.2))+t2*(u.1*d.1+u.2*d.2) by omega)
  omega
abbrev Sp:=Int×Int×Int
def inH(l:Int×Int×Int)(V:Sp):Prop:=l.1*V.1+l.2.1*V.2.1≤l.2.2*V.2.2
def onH(l:Int×Int×Int)(V:Sp):Prop:=l.1*V.1+l.2.1*V.2.1=l.2.2*V.2.2
structure Vtx (L:List (Int×Int×Int)) (V:Sp):Prop where
 pos:0<V.2.2
 all:∀l∈L,inH l V
 two:∃l∈L,∃m∈L,l.1*m.2.1-l.2.1*m.1≠0∧onH l V∧onH m V
def dif(A B:Sp):Pt:=(B.1*A.2.2-A.1*B.2.2,B.2.1*A.2.2-A.2.1*B.2.2)
def dot(a b:Pt):Int:=a.1*b.1+a.2*b.2
theorem zW{a:Pt}(h:a≠(0,0)):0<dot a a:=by
 unfold dot
 have s1:0≤a.1*a.1:=by rcases Int.le_total 0 a.1 with z|z;exact Int.mul_nonneg z z;exact Int.mul_nonneg_of_nonpos_of_nonpos z z
 have s2:0≤a.2*a.2:=by rcases Int.le_total 0 a.2 with z|z;exact Int.mul_nonneg z z;exact Int.mul_nonneg_of_nonpos_of_nonpos z z
 rcases Int.lt_or_le 0 (a.1*a.1+a.2*a.2) with z|z
 ·exact z
 ·exact absurd (Prod.ext ((Int.mul_eq_zero.mp (show a.1*a.1=0 by omega)).elim id id) ((Int.mul_eq_zero.mp (show a.2*a.2=0 by omega)).elim id id)) h
theorem nD{l m:Int×Int×Int}(h:l.1*m.2.1-l.2.1*m.1≠0){d:Pt}(h1:l.1*d.1+l.2.1*d.2=0)(h2:m.1*d.1+m.2.1*d.2=0):d=(0,0):=by
 have e1:(l.1*m.2.1-l.2.1*m.1)*d.1=0:=by
  have:(l.1*m.2.1-l.2.1*m.1)*d.1=m.2.1*(l.1*d.1+l.2.1*d.2)-l.2.1*(m.1*d.1+m.2.1*d.2):=by grind
  rw[this,h1,h2];simp
 have e2:(l.1*m.2.1-l.2.1*m.1)*d.2=0:=by
  have:(l.1*m.2.1-l.2.1*m.1)*d.2=l.1*(m.1*d.1+m.2.1*d.2)-m.1*(l.1*d.1+l.2.1*d.2):=by grind
  rw[this,h1,h2];simp
 exact Prod.ext ((Int.mul_eq_zero.mp e1).resolve_left h) ((Int.mul_eq_zero.mp e2).resolve_left h)
def pv(A B:Sp):Prop:=A.1*B.2.2=B.1*A.2.2∧A.2.1*B.2.2=B.2.1*A.2.2
theorem wF{A B:Sp}(h:pv A B)(hA:0<A.2.2)(hB:0<B.2.2)(u:Pt){X Y W:Int}(hW:0<W)(hlt:(u.1*X+u.2*Y)*A.2.2<(u.1*A.1+u.2*A.2.1)*W):(u.1*X+u.2*Y)*B.2.2<(u.1*B.1+u.2*B.2.1)*W:=by
 obtain⟨h1,h2⟩:=h
 have e:(u.1*A.1+u.2*A.2.1)*B.2.2=(u.1*B.1+u.2*B.2.1)*A.2.2:=by
  have:(u.1*A.1+u.2*A.2.1)*B.2.2=u.1*(A.1*B.2.2)+u.2*(A.2.1*B.2.2):=by grind
  rw[this,h1,h2];grind
 have z:=Int.mul_lt_mul_of_pos_right hlt hB
 have z1:(u.1*A.1+u.2*A.2.1)*W*B.2.2=(u.1*A.1+u.2*A.2.1)*B.2.2*W:=by grind
 rw[z1,e]at z
 have z2:(u.1*X+u.2*Y)*A.2.2*B.2.2=A.2.2*((u.1*X+u.2*Y)*B.2.2):=by grind
 have z3:(u.1*B.1+u.2*B.2.1)*A.2.2*W=A.2.2*((u.1*B.1+u.2*B.2.1)*W):=by grind
 rw[z2,z3]at z
 exact Int.lt_of_mul_lt_mul_left z (Int.le_of_lt hA)
theorem mD{L:List (Int×Int×Int)}(hL:CS L)(hne:∀l∈L,(l.1,l.2.1)≠((0,0):Pt)){X Y W:Int}(hW:0<W)(hin:∀l∈L,l.1*X+l.2.1*Y<l.2.2*W){F:List Sp}(hF:∀V∈F,0<V.2.2)
  (comp:∀V:Sp,Vtx L V→∃U∈F,pv V U):∃A∈F,∃B∈F,∃C∈F,A≠B∧A≠C∧B≠C:=by
 have go:∀u:Pt,u≠(0,0)→∃A∈F,(u.1*X+u.2*Y)*A.2.2<(u.1*A.1+u.2*A.2.1)*W:=fun u hu=>by
  obtain⟨p,q,r,hr,all,two,hlt⟩:=va hL hne hW hin hu
  obtain⟨A,hA,lk⟩:=comp (p,q,r) ⟨hr,all,two⟩
  exact⟨A,hA,wF lk hr (hF A hA) u hW hlt⟩
 obtain⟨A,hA,a1⟩:=go (1,0) (by simp)
 have rA:=hF A hA
 let u2:Pt:=(X*A.2.2-A.1*W,Y*A.2.2-A.2.1*W)
 have h2:u2≠(0,0):=fun z=>by
  have z1:=(Prod.mk.injEq ..).mp z
  simp only at a1
  have:(1*X+0*Y)*A.2.2=X*A.2.2:=by grind
  have:(1*A.1+0*A.2.1)*W=A.1*W:=by grind
  omega
 obtain⟨B,hB,b1⟩:=go u2 h2
 have rB:=hF B hB
 have nAB:A≠B:=fun z=>by
  rw[←z]at b1
  have p:=zW h2
  have e:(u2.1*X+u2.2*Y)*A.2.2-(u2.1*A.1+u2.2*A.2.1)*W=dot u2 u2:=by show _=u2.1*(X*A.2.2-A.1*W)+u2.2*(Y*A.2.2-A.2.1*W);grind
  omega
 have pick:∀n:Pt,n≠(0,0)→(n.1*A.1+n.2*A.2.1)*B.2.2=(n.1*B.1+n.2*B.2.1)*A.2.2→(n.1*A.1+n.2*A.2.1)*W≤(n.1*X+n.2*Y)*A.2.2→∃A∈F,∃B∈F,∃C∈F,A≠B∧A≠C∧B≠C:=fun n hn eq le=>by
  obtain⟨C,hC,c1⟩:=go n hn
  refine⟨A,hA,B,hB,C,hC,nAB,fun z=>?_,fun z=>?_⟩
  ·rw[←z]at c1;omega
  ·rw[←z]at c1
   have k1:=Int.mul_lt_mul_of_pos_left c1 rA
   have k2:=Int.mul_le_mul_of_nonneg_left le (Int.le_of_lt rB)
   have g1:A.2.2*((n.1*B.1+n.2*B.2.1)*W)=(n.1*B.1+n.2*B.2.1)*A.2.2*W:=by grind
   have g2:B.2.2*((n.1*A.1+n.2*A.2.1)*W)=(n.1*A.1+n.2*A.2.1)*B.2.2*W:=by grind
   have g3:A.2.2*((n.1*X+n.2*Y)*B.2.2)=B.2.2*((n.1*X+n.2*Y)*A.2.2):=by grind
   rw[g1,←eq,←g2,g3]at k1
   omega
 by_cases hd:dif A B=(0,0)
 ·-- the same place twice: any way off leads farther from both
  have e:=(Prod.mk.injEq ..).mp hd
  by_cases hle:(A.1)*W≤X*A.2.2
  ·exact pick (1,0) (by simp) (by simp only;grind) (by
    have e1:(1*A.1+0*A.2.1)*W=A.1*W:=by grind
    have e2:(1*X+0*Y)*A.2.2=X*A.2.2:=by grind
    simp only
    omega)
  ·exact pick (-1,0) (by simp) (by simp only;grind) (by
    have e1:(-1*A.1+0*A.2.1)*W = -(A.1*W):=by grind
    have e2:(-1*X+0*Y)*A.2.2 = -(X*A.2.2):=by grind
    simp only
    omega)
 ·let n:Pt:=(-(dif A B).2,(dif A B).1)
  have hn:n≠(0,0):=fun z=>hd (by have z1:=(Prod.mk.injEq ..).mp z;exact Prod.ext z1.2 (by show(dif A B).2=0;omega))
  have eq:(n.1*A.1+n.2*A.2.1)*B.2.2=(n.1*B.1+n.2*B.2.1)*A.2.2:=by show(-(dif A B).2*A.1+(dif A B).1*A.2.1)*B.2.2=(-(dif A B).2*B.1+(dif A B).1*B.2.1)*A.2.2;unfold dif;simp only;grind
  rcases Int.le_total ((n.1*A.1+n.2*A.2.1)*W) ((n.1*X+n.2*Y)*A.2.2) with k|k
  ·exact pick n hn eq k
  ·refine pick (-n.1,-n.2) (fun z=>hn (by have z1:=(Prod.mk.injEq ..).mp z;exact Prod.ext (by show n.1=0;omega) (by show n.2=0;omega))) ?_ ?_
   ·show(-n.1*A.1 + -n.2*A.2.1)*B.2.2=(-n.1*B.1 + -n.2*B.2.1)*A.2.2
    have e1:(-n.1*A.1 + -n.2*A.2.1)*B.2.2 = -((n.1*A.1+n.2*A.2.1)*B.2.2):=by grind
    have e2:(-n.1*B.1 + -n.2*B.2.1)*A.2.2 = -((n.1*B.1+n.2*B.2.1)*A.2.2):=by grind
    omega
   ·show(-n.1*A.1 + -n.2*A.2.1)*W≤(-n.1*X + -n.2*Y)*A.2.2
    have e1:(-n.1*A.1 + -n.2*A.2.1)*W = -((n.1*A.1+n.2*A.2.1)*W):=by grind
    have e2:(-n.1*X + -n.2*Y)*A.2.2 = -((n.1*X+n.2*Y)*A.2.2):=by grind
    omega
def aw(s:Pt×Pt):Pt:=(s.2.1-s.1.1,s.2.2-s.1.2)
theorem xN{cs:List Pt}(B:Body cs){s:Pt×Pt}(h:s∈ai cs):∃s0∈ai cs,∃s3∈ai cs,s0.2=s.1∧s3.1=s.2∧0<cro (aw s0) (aw s)∧0<cro (aw s) (aw s3):=by
 obtain⟨l,P⟩:=B.poly
 have h3:=B.three
 obtain⟨k,ha,hb⟩:=fJ h
 have hk:k<cs.length:=(List.getElem?_eq_some_iff.mp ha).1
 have ha':cs[k % cs.length]? = some s.1:=by rw[Nat.mod_eq_of_lt hk];exact ha
 have e1:(k+(cs.length-1)+1) % cs.length=k % cs.length:=by
  rw[show k+(cs.length-1)+1=k+cs.length by omega,Nat.add_mod_right]
 have e2:(k+(cs.length-1)+2) % cs.length=(k+1) % cs.length:=by
  rw[show k+(cs.length-1)+2=k+1+cs.length by omega,Nat.add_mod_right]
 obtain⟨p,hp⟩:=P.get (k+(cs.length-1))
 obtain⟨c,hc⟩:=P.get (k+2)
 have t0:=P.turn _ p s.1 s.2 hp (by rw[e1];exact ha') (by rw[e2];exact hb)
 have t1:=P.turn k s.1 s.2 c ha' hb hc
 have m0:(p,s.1)∈ai cs:=List.mem_of_getElem? (eG hp (by rw[Nat.mod_add_mod,e1];exact ha'))
 have m3:(s.2,c)∈ai cs:=List.mem_of_getElem? (eG hb (by rw[Nat.mod_add_mod];exact hc))
 refine⟨(p,s.1),m0,(s.2,c),m3,rfl,rfl,?_,?_⟩
 ·have e:cro (aw (p,s.1)) (aw s)=cr p s.1 s.2:=by unfold cro aw cr;simp only;grind
  omega
 ·have e:cro (aw s) (aw (s.2,c))=cr s.1 s.2 c:=by unfold cro aw cr;simp only;grind
  omega
theorem ow{cs:List Pt}(B:Body cs){s:Pt×Pt}(h:s∈ai cs){V:Sp}(hr:0<V.2.2)(all:∀t∈ai cs,inH (hpA t) V){θ β:Int}(hβ:0<β)(e1:V.1*β=(s.1.1*β+(aw s).1*θ)*V.2.2)(e2:V.2.1*β=(s.1.2*β+(aw s).2*θ)*V.2.2):0≤θ∧θ≤β:=by
 obtain⟨s0,h0,s3,h3,z0,z3,k0,k3⟩:=xN B h
 have i0:=all s0 h0
 have i3:=all s3 h3
 unfold inH hpA at i0 i3
 simp only at i0 i3
 constructor
 ·have q1:=Int.mul_le_mul_of_nonneg_right i0 (Int.le_of_lt hβ)
  have q2:((nrm s0).1*V.1+(nrm s0).2*V.2.1)*β=(nrm s0).1*(V.1*β)+(nrm s0).2*(V.2.1*β):=by grind
  rw[q2,e1,e2]at q1
  have q3:far (nrm s0) s0.1=far (nrm s0) s.1:=by rw[←z0];unfold far nrm;simp only;grind
  rw[q3]at q1
  have q4:(nrm s0).1*((s.1.1*β+(aw s).1*θ)*V.2.2)+(nrm s0).2*((s.1.2*β+(aw s).2*θ)*V.2.2)=far (nrm s0) s.1*V.2.2*β-V.2.2*(cro (aw s0) (aw s)*θ):=by unfold far nrm cro aw;simp only;grind
  rw[q4]at q1
  have q5:0≤V.2.2*(cro (aw s0) (aw s)*θ):=by omega
  exact bB k0 (bB hr q5)
 ·have q1:=Int.mul_le_mul_of_nonneg_right i3 (Int.le_of_lt hβ)
  have q2:((nrm s3).1*V.1+(nrm s3).2*V.2.1)*β=(nrm s3).1*(V.1*β)+(nrm s3).2*(V.2.1*β):=by grind
  rw[q2,e1,e2,z3]at q1
  have q4:far (nrm s3) s.2*V.2.2*β-((nrm s3).1*((s.1.1*β+(aw s).1*θ)*V.2.2)+(nrm s3).2*((s.1.2*β+(aw s).2*θ)*V.2.2))=V.2.2*(cro (aw s) (aw s3)*(β-θ)):=by unfold far nrm cro aw;simp only;grind
  have q5:0≤V.2.2*(cro (aw s) (aw s3)*(β-θ)):=by omega
  have:=bB k3 (bB hr q5)
  omega
def aG(x y w:Int)(V:Sp):Sp:=(V.1*w-x*V.2.2,V.2.1*w-y*V.2.2,V.2.2*w)
theorem cW{x y w:Int}{s:Pt×Pt}{V:Sp}:(inH (hpB x y w s) V↔inH (hpA s) (aG x y w V))∧(onH (hpB x y w s) V↔onH (hpA s) (aG x y w V)):=by
 unfold inH onH hpA hpB aG
 simp only
 have e:(nrm s).1*(V.1*w-x*V.2.2)+(nrm s).2*(V.2.1*w-y*V.2.2)-far (nrm s) s.1*(V.2.2*w)=(w*(nrm s).1*V.1+w*(nrm s).2*V.2.1)-(w*far (nrm s) s.1+(x*(nrm s).1+y*(nrm s).2))*V.2.2:=by grind
 constructor<;>constructor<;>intro h<;>omega
section
variable {c1 c2:List Pt}(B1:Body c1)(B2:Body c2){x y w:Int}(hw:0<w)
def aA(s o:Pt×Pt):Int:=cro (aw s) (aw o)
def cz(x y w:Int)(s o:Pt×Pt):Pt:=((o.1.1-s.1.1)*w+x,(o.1.2-s.1.2)*w+y)
structure Meet (x y w:Int) (s o:Pt×Pt) (V:Sp):Prop where
 e1:V.1*(aA s o*w)=(s.1.1*(aA s o*w)+(aw s).1*cro (cz x y w s o) (aw o))*V.2.2
 e2:V.2.1*(aA s o*w)=(s.1.2*(aA s o*w)+(aw s).2*cro (cz x y w s o) (aw o))*V.2.2
theorem Meet.rel{s o:Pt×Pt}{V:Sp}(M:Meet x y w s o V)(hw:w≠0)(ht:aA s o≠0):(aG x y w V).1*(aA s o*w)=(o.1.1*(aA s o*w)+(aw o).1*cro (cz x y w s o) (aw s))*(aG x y w V).2.2 ∧
  (aG x y w V).2.1*(aA s o*w)=(o.1.2*(aA s o*w)+(aw o).2*cro (cz x y w s o) (aw s))*(aG x y w V).2.2:=by
 obtain⟨e1,e2⟩:=M
 unfold aG
 simp only
 constructor
 ·have q:(V.1*w-x*V.2.2)*(aA s o*w)=w*(V.1*(aA s o*w))-x*V.2.2*(aA s o*w):=by grind
  rw[q,e1]
  unfold aA cro cz aw;simp only;grind
 ·have q:(V.2.1*w-y*V.2.2)*(aA s o*w)=w*(V.2.1*(aA s o*w))-y*V.2.2*(aA s o*w):=by grind
  rw[q,e2]
  unfold aA cro cz aw;simp only;grind
theorem zk{s o:Pt×Pt}{V:Sp}(hs:onH (hpA s) V)(ho:onH (hpB x y w o) V):Meet x y w s o V:=by
 unfold onH hpA at hs
 unfold onH hpB at ho
 simp only at hs ho
 constructor
 ·unfold aA cro cz aw far nrm at *;simp only at *;grind
 ·unfold aA cro cz aw far nrm at *;simp only at *;grind
theorem rn{s o:Pt×Pt}{V:Sp}(M:Meet x y w s o V)(hb:aA s o*w≠0):onH (hpA s) V∧onH (hpB x y w o) V:=by
 obtain⟨e1,e2⟩:=M
 unfold onH hpA hpB
 simp only
 constructor
 ·have q:(aA s o*w)*((nrm s).1*V.1+(nrm s).2*V.2.1-far (nrm s) s.1*V.2.2)=0:=by
   have:(aA s o*w)*((nrm s).1*V.1+(nrm s).2*V.2.1-far (nrm s) s.1*V.2.2)=(nrm s).1*(V.1*(aA s o*w))+(nrm s).2*(V.2.1*(aA s o*w))-far (nrm s) s.1*V.2.2*(aA s o*w):=by grind
   rw[this,e1,e2]
   unfold far nrm aw;simp only;grind
  have:=(Int.mul_eq_zero.mp q).resolve_left hb
  omega
 ·have q:(aA s o*w)*(w*(nrm o).1*V.1+w*(nrm o).2*V.2.1-(w*far (nrm o) o.1+(x*(nrm o).1+y*(nrm o).2))*V.2.2)=0:=by
   have:(aA s o*w)*(w*(nrm o).1*V.1+w*(nrm o).2*V.2.1-(w*far (nrm o) o.1+(x*(nrm o).1+y*(nrm o).2))*V.2.2)=w*(nrm o).1*(V.1*(aA s o*w))+w*(nrm o).2*(V.2.1*(aA s o*w))-(w*far (nrm o) o.1+(x*(nrm o).1+y*(nrm o).2))*V.2.2*(aA s o*w):=by grind
   rw[this,e1,e2]
   unfold far nrm aA cro cz aw;simp only;grind
  have:=(Int.mul_eq_zero.mp q).resolve_left hb
  omega
def part(t b:Int):Prop:=(0<b∧0≤t∧t≤b)∨(b<0∧b≤t∧t≤0)
include B1 B2 hw in
theorem zm{s o:Pt×Pt}(hs:s∈ai c1)(ho:o∈ai c2){V:Sp}(hr:0<V.2.2)(M:Meet x y w s o V)(ht:aA s o≠0)(p1:part (cro (cz x y w s o) (aw o)) (aA s o*w))(p2:part (cro (cz x y w s o) (aw s)) (aA s o*w)):Vtx (hps c1 c2 x y w) V:=by
 have hb:aA s o*w≠0:=fun z=>(Int.mul_eq_zero.mp z).elim ht (by omega)
 obtain⟨o1,o2⟩:=rn M hb
 have seg:∀{cs:List Pt}(B:Body cs){s:Pt×Pt}(hs:s∈ai cs){U:Sp}{θ β:Int},0<U.2.2→part θ β→U.1*β=(s.1.1*β+(aw s).1*θ)*U.2.2→U.2.1*β=(s.1.2*β+(aw s).2*θ)*U.2.2→∀t∈ai cs,inH (hpA t) U:=fun {cs} B {s} hs {U} {θ} {β} hU hp e1 e2 t ht=>by
  obtain⟨mx,_,_⟩:=dg B ht
  obtain⟨_,m1,m2⟩:=dg B hs
  have f1:=mx _ m1
  have f2:=mx _ m2
  unfold inH hpA
  simp only
  have q:β*((nrm t).1*U.1+(nrm t).2*U.2.1)=U.2.2*(far (nrm t) s.1*(β-θ)+far (nrm t) s.2*θ):=by
   have:β*((nrm t).1*U.1+(nrm t).2*U.2.1)=(nrm t).1*(U.1*β)+(nrm t).2*(U.2.1*β):=by grind
   rw[this,e1,e2]
   unfold far aw;simp only;grind
  generalize (nrm t).1*U.1+(nrm t).2*U.2.1=G at *
  rcases hp with ⟨b0,t0,t1⟩|⟨b0,t0,t1⟩
  ·have k1:=Int.mul_le_mul_of_nonneg_right f1 (show 0≤β-θ by omega)
   have k2:=Int.mul_le_mul_of_nonneg_right f2 t0
   have k3:far (nrm t) t.1*(β-θ)+far (nrm t) t.1*θ=β*far (nrm t) t.1:=by grind
   have k4:=Int.mul_le_mul_of_nonneg_left (show far (nrm t) s.1*(β-θ)+far (nrm t) s.2*θ≤β*far (nrm t) t.1 by omega) (Int.le_of_lt hU)
   rw[←q]at k4
   have k5:U.2.2*(β*far (nrm t) t.1)=β*(far (nrm t) t.1*U.2.2):=by grind
   rw[k5]at k4
   exact Int.le_of_mul_le_mul_left k4 b0
  ·have k1:=Int.mul_le_mul_of_nonneg_right f1 (show 0≤-(β-θ) by omega)
   have k2:=Int.mul_le_mul_of_nonneg_right f2 (show 0≤-θ by omega)
   have k3:far (nrm t) t.1 * -(β-θ)+far (nrm t) t.1 * -θ = -β*far (nrm t) t.1:=by grind
   have k3':far (nrm t) s.1 * -(β-θ)+far (nrm t) s.2 * -θ = -(far (nrm t) s.1*(β-θ)+far (nrm t) s.2*θ):=by grind
   have k4:=Int.mul_le_mul_of_nonneg_left (show -(far (nrm t) s.1*(β-θ)+far (nrm t) s.2*θ)≤-β*far (nrm t) t.1 by omega) (Int.le_of_lt hU)
   have k6:U.2.2 * -(far (nrm t) s.1*(β-θ)+far (nrm t) s.2*θ) = -β*G:=by
    have:-β*G = -(β*G):=by grind
    rw[this,q];grind
   have k5:U.2.2*(-β*far (nrm t) t.1) = -β*(far (nrm t) t.1*U.2.2):=by grind
   rw[k6,k5]at k4
   exact Int.le_of_mul_le_mul_left k4 (by omega)
 refine⟨hr,fun l hl=>?_,hpA s,List.mem_append_left _ (List.mem_map_of_mem hs),hpB x y w o,List.mem_append_right _ (List.mem_map_of_mem ho),?_,o1,o2⟩
 ·rcases List.mem_append.mp hl with hl|hl
  ·obtain⟨t,ht',rfl⟩:=List.mem_map.mp hl
   exact seg B1 hs hr p1 M.e1 M.e2 t ht'
  ·obtain⟨t,ht',rfl⟩:=List.mem_map.mp hl
   obtain⟨r1,r2⟩:=M.rel (by omega) ht
   exact cW.1.mpr (seg B2 ho (Int.mul_pos hr hw) p2 r1 r2 t ht')
 ·have e:(hpA s).1*(hpB x y w o).2.1-(hpA s).2.1*(hpB x y w o).1=aA s o*w:=by unfold hpA hpB aA cro nrm aw;simp only;grind
  rw[e];exact hb
include B1 B2 hw in
theorem tK{V:Sp}(hV:Vtx (hps c1 c2 x y w) V):(∃c∈c1,V.1=c.1*V.2.2∧V.2.1=c.2*V.2.2)∨(∃c∈c2,(aG x y w V).1=c.1*(aG x y w V).2.2∧(aG x y w V).2.1=c.2*(aG x y w V).2.2) ∨
  ∃s∈ai c1,∃o∈ai c2,aA s o≠0∧Meet x y w s o V∧part (cro (cz x y w s o) (aw o)) (aA s o*w)∧part (cro (cz x y w s o) (aw s)) (aA s o*w):=by
 have hr:=hV.pos
 have allA:∀t∈ai c1,inH (hpA t) V:=fun t ht=>hV.all _ (List.mem_append_left _ (List.mem_map_of_mem ht))
 have allB:∀t∈ai c2,inH (hpA t) (aG x y w V):=fun t ht=>cW.1.mp (hV.all _ (List.mem_append_right _ (List.mem_map_of_mem ht)))
 have hrB:0<(aG x y w V).2.2:=Int.mul_pos hr hw
 have corner:∀{cs:List Pt}(B:Body cs){U:Sp},0<U.2.2→(∀t∈ai cs,inH (hpA t) U)→∀s∈ai cs,∀t∈ai cs,cro (nrm s) (nrm t)≠0→onH (hpA s) U→onH (hpA t) U→∃c∈cs,U.1=c.1*U.2.2∧U.2.1=c.2*U.2.2:=fun {cs} B {U} hU all s hs t ht hn os ot=>by
  obtain⟨_,m1,m2⟩:=dg B hs
  obtain⟨mx,_,_⟩:=dg B ht
  have f1:=mx _ m1
  have f2:=mx _ m2
  have eβ:cro (nrm s) (nrm t)=far (nrm t) s.2-far (nrm t) s.1:=by unfold cro far nrm;simp only;grind
  unfold onH hpA at os ot
  simp only at os ot
  have g1:U.1*(far (nrm t) s.2-far (nrm t) s.1)=(s.1.1*(far (nrm t) s.2-far (nrm t) s.1)+(aw s).1*(far (nrm t) t.1-far (nrm t) s.1))*U.2.2:=by unfold far nrm aw at *;simp only at *;grind
  have g2:U.2.1*(far (nrm t) s.2-far (nrm t) s.1)=(s.1.2*(far (nrm t) s.2-far (nrm t) s.1)+(aw s).2*(far (nrm t) t.1-far (nrm t) s.1))*U.2.2:=by unfold far nrm aw at *;simp only at *;grind
  rw[eβ]at hn
  generalize far (nrm t) s.2=F2 at *
  generalize far (nrm t) s.1=F1 at *
  generalize far (nrm t) t.1=F at *
  rcases Int.lt_or_le F1 F2 with k|k
  ·obtain⟨q1,q2⟩:=ow B hs hU all (show 0<F2-F1 by omega) g1 g2
   have eF:F=F2:=by omega
   refine⟨s.2,m2,?_,?_⟩
   ·have:(F2-F1)*U.1=(F2-F1)*(s.2.1*U.2.2):=by rw[eF]at g1;unfold aw at g1;simp only at g1;grind
    exact Int.eq_of_mul_eq_mul_left (by omega) this
   ·have:(F2-F1)*U.2.1=(F2-F1)*(s.2.2*U.2.2):=by rw[eF]at g2;unfold aw at g2;simp only at g2;grind
    exact Int.eq_of_mul_eq_mul_left (by omega) this
  ·have g1':U.1*(F1-F2)=(s.1.1*(F1-F2)+(aw s).1*(F1-F))*U.2.2:=by grind
   have g2':U.2.1*(F1-F2)=(s.1.2*(F1-F2)+(aw s).2*(F1-F))*U.2.2:=by grind
   obtain⟨q1,q2⟩:=ow B hs hU all (show 0<F1-F2 by omega) g1' g2'
   have eF:F=F1:=by omega
   refine⟨s.1,m1,?_,?_⟩
   ·have:(F1-F2)*U.1=(F1-F2)*(s.1.1*U.2.2):=by rw[eF]at g1';grind
    exact Int.eq_of_mul_eq_mul_left (by omega) this
   ·have:(F1-F2)*U.2.1=(F1-F2)*(s.1.2*U.2.2):=by rw[eF]at g2';grind
    exact Int.eq_of_mul_eq_mul_left (by omega) this
 have cross:∀s∈ai c1,∀o∈ai c2,aA s o≠0→onH (hpA s) V→onH (hpB x y w o) V→∃s∈ai c1,∃o∈ai c2,aA s o≠0∧Meet x y w s o V∧part (cro (cz x y w s o) (aw o)) (aA s o*w)∧part (cro (cz x y w s o) (aw s)) (aA s o*w):=fun s hs o ho ht os oo=>by
  have M:=zk os oo
  have hb:aA s o*w≠0:=fun z=>(Int.mul_eq_zero.mp z).elim ht (by omega)
  obtain⟨r1,r2⟩:=M.rel (by omega) ht
  have fit:∀{cs:List Pt}(B:Body cs){s:Pt×Pt}(hs:s∈ai cs){U:Sp}{θ β:Int},0<U.2.2→(∀t∈ai cs,inH (hpA t) U)→β≠0→U.1*β=(s.1.1*β+(aw s).1*θ)*U.2.2→U.2.1*β=(s.1.2*β+(aw s).2*θ)*U.2.2→part θ β:=fun {cs} B {s} hs {U} {θ} {β} hU all hβ e1 e2=>by
   rcases Int.lt_or_le 0 β with k|k
   ·obtain⟨a,b⟩:=ow B hs hU all k e1 e2
    exact .inl ⟨k,a,b⟩
   ·obtain⟨a,b⟩:=ow B hs hU all (show 0 < -β by omega) (θ:=-θ) (by grind) (by grind)
    exact .inr ⟨by omega,by omega,by omega⟩
  exact⟨s,hs,o,ho,ht,M,fit B1 hs hr allA hb M.e1 M.e2,fit B2 ho hrB allB hb r1 r2⟩
 obtain⟨l,hl,m,hm,hlm,ol,om⟩:=hV.two
 rcases List.mem_append.mp hl with hl|hl
 ·obtain⟨s,hs,rfl⟩:=List.mem_map.mp hl
  rcases List.mem_append.mp hm with hm|hm
  ·obtain⟨t,ht,rfl⟩:=List.mem_map.mp hm
   exact .inl (corner B1 hr allA s hs t ht hlm ol om)
  ·obtain⟨t,ht,rfl⟩:=List.mem_map.mp hm
   have e:(hpA s).1*(hpB x y w t).2.1-(hpA s).2.1*(hpB x y w t).1=aA s t*w:=by unfold hpA hpB aA cro nrm aw;simp only;grind
   rw[e]at hlm
   exact .inr (.inr (cross s hs t ht (fun z=>hlm (by rw[z,Int.zero_mul])) ol om))
 ·obtain⟨s,hs,rfl⟩:=List.mem_map.mp hl
  rcases List.mem_append.mp hm with hm|hm
  ·obtain⟨t,ht,rfl⟩:=List.mem_map.mp hm
   have e:(hpB x y w s).1*(hpA t).2.1-(hpB x y w s).2.1*(hpA t).1 = -(aA t s*w):=by unfold hpA hpB aA cro nrm aw;simp only;grind
   rw[e]at hlm
   exact .inr (.inr (cross t ht s hs (fun z=>hlm (by rw[z,Int.zero_mul];rfl)) om ol))
  ·obtain⟨t,ht,rfl⟩:=List.mem_map.mp hm
   have e:(hpB x y w s).1*(hpB x y w t).2.1-(hpB x y w s).2.1*(hpB x y w t).1=w*(w*cro (nrm s) (nrm t)):=by unfold hpB cro;simp only;grind
   rw[e]at hlm
   exact .inr (.inl (corner B2 hrB allB s hs t ht (fun z=>hlm (by rw[z];simp)) (cW.2.mp ol) (cW.2.mp om)))
end
structure Fig (cs:List Pt):Prop where
 pb:∀q∈cs,PB 120 q
 len:cs.length≤200
 three:3≤cs.length
theorem Fig.ne{cs:List Pt}(B:Fig cs):cs≠[]:=fun z=>by have:=B.three;rw[z]at this;simp at this
structure Spt (x y w:Int):Prop where
 pos:0<w
 xb:intBits x≤500
 yb:intBits y≤500
 wb:intBits w≤500
def hnd(s:Pt×Pt)(x y w:Int):Int:=(s.2.1-s.1.1)*(y-s.1.2*w)-(s.2.2-s.1.2)*(x-s.1.1*w)
theorem zO{s:Pt×Pt}{x y w p q r:Int}(ex:p*w=x*r)(ey:q*w=y*r):hnd s p q r*w=hnd s x y w*r:=by
 unfold hnd
 have e1:(q-s.1.2*r)*w=(y-s.1.2*w)*r:=by grind
 have e2:(p-s.1.1*r)*w=(x-s.1.1*w)*r:=by grind
 grind
theorem vg{a b w r:Int}(hw:0<w)(hr:0<r)(h:a*w=b*r):(a<0↔b<0)∧(a=0↔b=0):=by
 have pa:∀{u v:Int},0<v→(0<u→0<u*v)∧(u<0→u*v<0):=fun hv=>⟨fun hu=>Int.mul_pos hu hv,fun hu=>Int.mul_neg_of_neg_of_pos hu hv⟩
 have a1:=pa (u:=a) hw
 have b1:=pa (u:=b) hr
 rcases Int.lt_trichotomy a 0 with ha|ha|ha
 ·rcases Int.lt_trichotomy b 0 with hb|hb|hb
  ·exact⟨⟨fun _=>hb,fun _=>ha⟩,⟨fun z=>by omega,fun z=>by omega⟩⟩
  ·subst hb;have:=a1.2 ha;simp at h;omega
  ·have:=a1.2 ha;have:=b1.1 hb;omega
 ·subst ha
  rcases Int.lt_trichotomy b 0 with hb|hb|hb
  ·have:=b1.2 hb;simp at h;omega
  ·exact⟨⟨fun z=>by omega,fun z=>by omega⟩,⟨fun _=>hb,fun _=>rfl⟩⟩
  ·have:=b1.1 hb;simp at h;omega
 ·rcases Int.lt_trichotomy b 0 with hb|hb|hb
  ·have:=a1.1 ha;have:=b1.2 hb;omega
  ·subst hb;have:=a1.1 ha;simp at h;omega
  ·exact⟨⟨fun z=>by omega,fun z=>by omega⟩,⟨fun z=>by omega,fun z=>by omega⟩⟩
section
variable {x y w u v t:Int}(S:Spt x y w)(T:Spt u v t)
include S T
theorem DZ:∃p q r,fj [YT x y w,YT u v t]=.ok (YT p q r)∧0<r∧p*(w*t)=(u*w-x*t)*r∧q*(w*t)=(v*w-y*t)*r∧intBits p≤2000∧intBits q≤2000∧intBits r≤2000:=by
 have hp:0<w*t:=Int.mul_pos S.pos T.pos
 have wb:=bits_mul S.wb T.wb
 obtain⟨p,q,r,hs,low⟩:=i9 (x:=u*w-x*t) (y:=v*w-y*t) (w:=w*t) (by omega) (Nat.le_trans wb (by decide))
 refine⟨p,q,r,?_,low.pos,low.ex,low.ey,low.pb _ (Nat.le_trans (bits_sub (bits_mul T.xb S.wb) (bits_mul S.xb T.wb)) (by decide)),low.qb _ (Nat.le_trans (bits_sub (bits_mul T.yb S.wb) (bits_mul S.yb T.wb)) (by decide)),low.rb _ (Nat.le_trans wb (by decide))⟩
 unfold fj;rw[nZ]
 simp[gd,aq T.xb S.wb (by decide),aq S.xb T.wb (by decide),aq T.yb S.wb (by decide),aq S.yb T.wb (by decide),aq S.wb T.wb (by decide),hs]
def whr(m:Int):Int:=if m>0 then 1 else if m=0 then 0 else -1
omit S T in
theorem xi{cs:List Pt}(B:Fig cs)(f:Pt×Pt→Int):∃h0 hs,(ai cs).map f=h0::hs:=by
 cases hc:ai cs with
 |nil=>have:=eD cs;rw[hc]at this;have:=B.three;simp at *;omega
 |cons s r=>exact⟨f s,r.map f,rfl⟩
theorem zp{cs:List Pt}(B:Fig cs):∃k:Int,iK [.lst (cs.map ptP),YT x y w,YT u v t]=.ok (.int k) ∧
  ((∃s∈ai cs,hnd s (u*w-x*t) (v*w-y*t) (w*t)<0)→k = -1) ∧
  ((∀s∈ai cs,0≤hnd s (u*w-x*t) (v*w-y*t) (w*t))→(∃s∈ai cs,hnd s (u*w-x*t) (v*w-y*t) (w*t)=0)→k=0) ∧
  ((∀s∈ai cs,0<hnd s (u*w-x*t) (v*w-y*t) (w*t))→k=1):=by
 obtain⟨p,q,r,hw,hr,ex,ey,pb,qb,rb⟩:=DZ S T
 have hp:0<w*t:=Int.mul_pos S.pos T.pos
 have sg:∀s:Pt×Pt,(hnd s p q r<0↔hnd s (u*w-x*t) (v*w-y*t) (w*t)<0)∧(hnd s p q r=0↔hnd s (u*w-x*t) (v*w-y*t) (w*t)=0):=fun s=>vg hp hr (zO ex ey)
 have hsd:=oC B.ne (Nat.le_trans B.len (by decide))
 obtain⟨h0,hs,hh⟩:=xi B (fun s=>hnd s p q r)
 have up:∀{q:Pt},PB 120 q→PB 400 q:=fun h=>⟨Nat.le_trans h.1 (by decide),Nat.le_trans h.2 (by decide)⟩
 have hcomp:(eT 4 (itE (eA (fun ps=>noErr (dH ps)) (aa (ae 0) aj))) (gN 0) fQ 1 [3]) [YL (cs.map ptP),Y (YT x y w),Y (YT u v t),Y (YT p q r),none,none] =
   YN [YL (cs.map ptP),Y (YT x y w),Y (YT u v t),Y (YT p q r),YL ((h0::hs).map PV.int),none]:=by
  rw[gG (xs:=ai cs) (u:=sdP) (v:=fun s=>PV.int (hnd s p q r)) (by simp[hsd]) (fun s hs'=>by
   rw[iQ]
   show noErr (fQ [Y (sdP s),Y (YT p q r)])=_
   obtain⟨k,ha,hb⟩:=fJ hs'
   have ml:=wz (up (B.pb _ (List.mem_of_getElem? ha))) (up (B.pb _ (List.mem_of_getElem? hb))) (Nat.le_trans pb (show 2000≤4000 by decide)) (Nat.le_trans qb (show 2000≤4000 by decide)) (Nat.le_trans rb (show 2000≤4000 by decide))
   unfold sdP
   simp[fQ,ml,hnd]) (by rw[eD];have:=B.len;omega)]
  rw[←hh,List.map_map]
  rfl
 obtain⟨l1,l2,l3⟩:=kF hs h0
 have hmin:=o6 (n:=h0) (ns:=hs)
 have mem:∀s∈ai cs,hnd s p q r=h0∨hnd s p q r∈hs:=fun s hs'=>by
  have:hnd s p q r∈(ai cs).map (fun s=>hnd s p q r):=List.mem_map_of_mem hs'
  rw[hh]at this
  exact List.mem_cons.mp this
 have low:∀s∈ai cs,fL h0 hs≤hnd s p q r:=fun s hs'=>by
  rcases mem s hs' with e|e
  ·rw[e];exact l1
  ·exact l2 _ e
 have att:∃s∈ai cs,hnd s p q r=fL h0 hs:=by
  have:fL h0 hs∈(ai cs).map (fun s=>hnd s p q r):=by
   rw[hh]
   rcases l3 with e|e
   ·rw[e];exact .head _
   ·exact .tail _ e
  obtain⟨s,h1,h2⟩:=List.mem_map.mp this
  exact⟨s,h1,h2⟩
 refine⟨whr (fL h0 hs),?_,?_,?_,?_⟩
 ·generalize fL h0 hs=m at *
  unfold iK;rw[mI]
  show fin (jC [YL (cs.map ptP),Y (YT x y w),Y (YT u v t),none,none,none])=_
  unfold jC
  generalize eT 4 (itE (eA (fun ps=>noErr (dH ps)) (aa (ae 0) aj))) (gN 0) fQ 1 [3]=F at *
  generalize (h0::hs).map PV.int=HS at *
  unfold whr
  by_cases h1:0<m
  ·simp[hw,hcomp,hmin,h1]
  ·by_cases h2:m=0
   ·simp[hw,hcomp,hmin,h2]
   ·simp[hw,hcomp,hmin,h1,h2]
 ·rintro⟨s,h1,h2⟩
  have:=low s h1
  have:=(sg s).1.mpr h2
  unfold whr
  rw[if_neg (by omega),if_neg (by omega)]
 ·rintro h1 ⟨s,h2,h3⟩
  obtain⟨s',h4,h5⟩:=att
  have a1:=low s h2
  have a2:=(sg s).2.mpr h3
  have a3:¬hnd s' p q r<0:=fun z=>by have:=(sg s').1.mp z;have:=h1 s' h4;omega
  unfold whr
  rw[if_neg (by omega),if_pos (by omega)]
 ·intro h1
  obtain⟨s',h4,h5⟩:=att
  have a3:¬hnd s' p q r<0:=fun z=>by have:=(sg s').1.mp z;have:=h1 s' h4;omega
  have a4:¬hnd s' p q r=0:=fun z=>by have:=(sg s').2.mp z;have:=h1 s' h4;omega
  unfold whr
  rw[if_pos (by omega)]
end
def tP(V:Sp):PV:=YT V.1 V.2.1 V.2.2
structure Ok (k:Nat) (V:Sp):Prop where
 pos:0<V.2.2
 one:gI (gI V.1 V.2.1) V.2.2=1
 a:intBits V.1≤k
 b:intBits V.2.1≤k
 c:intBits V.2.2≤k
theorem Ok.up{j k:Nat}{V:Sp}(h:Ok j V)(hk:j≤k):Ok k V:=⟨h.pos,h.one,Nat.le_trans h.a hk,Nat.le_trans h.b hk,Nat.le_trans h.c hk⟩
theorem jt:Shf 0 0 1:=⟨by decide,Nat.le_trans (ck (n:=1) (by decide)) (by decide),Nat.le_trans (ck (n:=1) (by decide)) (by decide),Nat.le_trans (ck (n:=1) (by decide)) (by decide)⟩
theorem Shf.spt{x y w:Int}(S:Shf x y w):Spt x y w:=⟨S.pos,Nat.le_trans S.xb (by decide),Nat.le_trans S.yb (by decide),Nat.le_trans S.wb (by decide)⟩
theorem Body.fig{cs:List Pt}(B:Body cs):Fig cs:=⟨B.pb,Nat.le_trans B.len (by decide),B.three⟩
theorem wu{c:Pt}(hc:PB 120 c){x y w:Int}(S:Shf x y w):∃V:Sp,dv [ptP c,YT x y w]=.ok (tP V)∧Ok 400 V∧V.1*w=(c.1*w+x)*V.2.2∧V.2.1*w=(c.2*w+y)*V.2.2:=by
 obtain⟨p,q,r,hs,low⟩:=i9 (x:=c.1*w+x) (y:=c.2*w+y) (w:=w) (by have:=S.pos;omega) (Nat.le_trans S.wb (by decide))
 refine⟨(p,q,r),?_,⟨low.pos,low.one,low.pb _ (Nat.le_trans (bits_add (bits_mul hc.1 S.wb) S.xb) (by decide)),low.qb _ (Nat.le_trans (bits_add (bits_mul hc.2 S.wb) S.yb) (by decide)),low.rb _ (Nat.le_trans S.wb (by decide))⟩,low.ex,low.ey⟩
 unfold dv;rw[nZ]
 simp[jD,aq hc.1 S.wb (by decide),aq hc.2 S.wb (by decide),hs,tP]
theorem lJ{a b:Pt}(ha:PB 600 a)(hb:PB 600 b):cv [ptP a,ptP b]=.ok (.int (cro a b)):=by
 unfold cv;rw[nZ]
 simp[jE,aq ha.1 hb.2 (by decide),aq ha.2 hb.1 (by decide),cro]
theorem wA(s:Pt×Pt):bX [sdP s]=.ok (ptP (aw s)):=by
 unfold bX;rw[pQ]
 unfold sdP
 simp[fv,aw,ptP]
theorem wy(t b:Int)(hb:b≠0):∃k,eO [.int t,.int b]=.ok (.bl k)∧(k=true↔part t b):=by
 unfold eO;rw[nZ]
 by_cases h:b<0
 ·refine⟨decide (b≤t)&&decide (t≤0),?_,?_⟩
  ·by_cases h1:b≤t
   ·simp[dA,eCh,asB,h,h1]
   ·simp[dA,eCh,asB,h,h1]
  ·unfold part
   rw[Bool.and_eq_true,decide_eq_true_iff,decide_eq_true_iff]
   constructor
   ·intro⟨h1,h2⟩;exact .inr ⟨h,h1,h2⟩
   ·rintro(⟨h1,_⟩|⟨_,h2,h3⟩)
    ·omega
    ·exact⟨h2,h3⟩
 ·refine⟨decide (0≤t)&&decide (t≤b),?_,?_⟩
  ·by_cases h1:0≤t
   ·simp[dA,eCh,asB,h,h1]
   ·simp[dA,eCh,asB,h,h1]
  ·unfold part
   rw[Bool.and_eq_true,decide_eq_true_iff,decide_eq_true_iff]
   constructor
   ·intro⟨h1,h2⟩;exact .inl ⟨by omega,h1,h2⟩
   ·rintro(⟨_,h2,h3⟩|⟨h1,_⟩)
    ·exact⟨h2,h3⟩
    ·omega
theorem zw{V:Sp}(hV:Ok 400 V){f t:Pt}(hf:PB 130 f)(ht:0<t.2)(b1:intBits t.1≤600)(b2:intBits t.2≤600):∃U:Sp,eR [tP V,ptP f,ptP t]=.ok (tP U)∧Ok 1200 U∧U.1*(V.2.2*t.2)=(V.1*t.2+f.1*t.1*V.2.2)*U.2.2∧U.2.1*(V.2.2*t.2)=(V.2.1*t.2+f.2*t.1*V.2.2)*U.2.2:=by
 have wp:=Int.mul_pos hV.pos ht
 obtain⟨p,q,r,hs,low⟩:=i9 (x:=V.1*t.2+f.1*t.1*V.2.2) (y:=V.2.1*t.2+f.2*t.1*V.2.2) (w:=V.2.2*t.2) (by omega) (Nat.le_trans (bits_mul hV.c b2) (by decide))
 refine⟨(p,q,r),?_,⟨low.pos,low.one,low.pb _ (Nat.le_trans (bits_add (bits_mul hV.a b2) (bits_mul (bits_mul hf.1 b1) hV.c)) (by decide)),low.qb _ (Nat.le_trans (bits_add (bits_mul hV.b b2) (bits_mul (bits_mul hf.2 b1) hV.c)) (by decide)),low.rb _ (Nat.le_trans (bits_mul hV.c b2) (by decide))⟩,low.ex,low.ey⟩
 unfold eR;rw[mI]
 unfold tP
 simp[iC,aq hV.a b2 (by decide),aq hV.b b2 (by decide),aq hf.1 b1 (by decide),aq hf.2 b1 (by decide),aq (bits_mul hf.1 b1) hV.c (by decide),aq (bits_mul hf.2 b1) hV.c (by decide),aq hV.c b2 (by decide),hs]
def oS:Option Sp→PV
 |none=>.non
 |some V=>tP V
theorem rC{s o:Pt×Pt}(a1:PB 120 s.1)(a2:PB 120 s.2)(a3:PB 120 o.1)(a4:PB 120 o.2){x y w:Int}(S:Shf x y w):∃r:Option Sp,cI [sdP s,sdP o,YT x y w]=.ok (oS r) ∧
  (∀V,r=some V→Ok 1200 V∧aA s o≠0∧Meet x y w s o V∧part (cro (cz x y w s o) (aw o)) (aA s o*w)∧part (cro (cz x y w s o) (aw s)) (aA s o*w)) ∧
  (aA s o≠0→part (cro (cz x y w s o) (aw o)) (aA s o*w)→part (cro (cz x y w s o) (aw s)) (aA s o*w)→∃V,r=some V):=by
 have f1:PB 121 (aw s):=⟨bits_sub a2.1 a1.1,bits_sub a2.2 a1.2⟩
 have f2:PB 121 (aw o):=⟨bits_sub a4.1 a3.1,bits_sub a4.2 a3.2⟩
 have f3:PB 121 (aw (s.1,o.1)):=⟨bits_sub a3.1 a1.1,bits_sub a3.2 a1.2⟩
 have fw:PB 400 (cz x y w s o):=⟨Nat.le_trans (bits_add (bits_mul (bits_sub a3.1 a1.1) S.wb) S.xb) (by decide),Nat.le_trans (bits_add (bits_mul (bits_sub a3.2 a1.2) S.wb) S.yb) (by decide)⟩
 have up:∀{q:Pt}{k:Nat},PB k q→k≤600→PB 600 q:=fun h hk=>⟨Nat.le_trans h.1 hk,Nat.le_trans h.2 hk⟩
 have m1:=lJ (up f1 (by decide)) (up f2 (by decide))
 have m2:=lJ (up fw (by decide)) (up f2 (by decide))
 have m3:=lJ (up fw (by decide)) (up f1 (by decide))
 have md1:=wA s
 have md2:=wA o
 have md3:bX [.tup [ptP s.1,ptP o.1]]=.ok (ptP (aw (s.1,o.1))):=wA (s.1,o.1)
 have tb:intBits (aA s o)≤300:=Nat.le_trans (bits_sub (bits_mul f1.1 f2.2) (bits_mul f1.2 f2.1)) (by decide)
 have k1:=aq f3.1 S.wb (by decide)
 have k2:=aq f3.2 S.wb (by decide)
 have k3:=aq tb S.wb (by decide)
 have hm:∀p,cF [Y (sdP s),Y (sdP o),Y (YT x y w),none,none,none,none,none,none]=.ok (.ret p)→cI [sdP s,sdP o,YT x y w]=.ok p:=fun p h=>by
  unfold cI;exact mI.trans (congrArg fin h)
 have s0:atR [ptP s.1,ptP s.2] 0 id=.ok (ptP s.1):=rfl
 by_cases ht:aA s o=0
 ·refine⟨none,hm _ ?_,fun V e=>(by cases e),fun h=>absurd ht h⟩
  have m1':cv [ptP (aw s),ptP (aw o)]=.ok (.int 0):=by rw[m1];exact congrArg (fun z=>Res.ok (PV.int z)) ht
  simp[cF,md1,md2,m1',oS]
 ·have hb:aA s o*w≠0:=fun z=>(Int.mul_eq_zero.mp z).elim ht (by have:=S.pos;omega)
  have m1':cv [ptP (aw s),ptP (aw o)]=.ok (.int (aA s o)):=m1
  have mw:∀z:PV,cN [.int ((aw (s.1,o.1)).1*w+x),.int ((aw (s.1,o.1)).2*w+y)]=.ok (ptP (cz x y w s o)):=fun _=>rfl
  obtain⟨b1,q1,r1⟩:=wy (cro (cz x y w s o) (aw o)) (aA s o*w) hb
  obtain⟨b2,q2,r2⟩:=wy (cro (cz x y w s o) (aw s)) (aA s o*w) hb
  have e1:(cz x y w s o)=((aw (s.1,o.1)).1*w+x,(aw (s.1,o.1)).2*w+y):=rfl
  have m2':cv [.tup [.int ((aw (s.1,o.1)).1*w+x),.int ((aw (s.1,o.1)).2*w+y)],ptP (aw o)]=.ok (.int (cro (cz x y w s o) (aw o))):=m2
  have m3':cv [.tup [.int ((aw (s.1,o.1)).1*w+x),.int ((aw (s.1,o.1)).2*w+y)],ptP (aw s)]=.ok (.int (cro (cz x y w s o) (aw s))):=m3
  obtain⟨P0,hP0,oP0,x0,y0⟩:=wu a1 jt
  obtain⟨t1,t2,hpo,low⟩:=ur (t:=cro (cz x y w s o) (aw o)) (b:=aA s o*w) hb (Nat.le_trans (bits_mul tb S.wb) (by decide))
  have wb:intBits (cro (cz x y w s o) (aw o))≤600:=Nat.le_trans (bits_sub (bits_mul fw.1 f2.2) (bits_mul fw.2 f2.1)) (by decide)
  obtain⟨U,hU,oU,ux,uy⟩:=zw oP0 (t:=(t1,t2)) (DJ f1 (by decide)) low.pos (low.qb _ wb) (low.rb _ (Nat.le_trans (bits_mul tb S.wb) (by decide)))
  have hU':eR [tP P0,ptP (aw s),.tup [.int t1,.int t2]]=.ok (tP U):=hU
  have M:Meet x y w s o U:=by
   have c0:=oP0.pos
   have ct:=low.pos
   have le:=low.eq
   simp only[Int.mul_one,Int.add_zero]at x0 y0
   simp only at ux uy
   constructor
   ·have z1:(P0.2.2*t2)*(U.1*(aA s o*w))=(P0.2.2*t2)*((s.1.1*(aA s o*w)+(aw s).1*cro (cz x y w s o) (aw o))*U.2.2):=by
     have:(P0.2.2*t2)*(U.1*(aA s o*w))=U.1*(P0.2.2*t2)*(aA s o*w):=by grind
     rw[this,ux,x0]
     have:(s.1.1*P0.2.2*t2+(aw s).1*t1*P0.2.2)*U.2.2*(aA s o*w)=P0.2.2*U.2.2*(s.1.1*t2*(aA s o*w)+(aw s).1*(t1*(aA s o*w))):=by grind
     rw[this,le]
     grind
    exact Int.eq_of_mul_eq_mul_left (by have:=Int.mul_pos c0 ct;omega) z1
   ·have z1:(P0.2.2*t2)*(U.2.1*(aA s o*w))=(P0.2.2*t2)*((s.1.2*(aA s o*w)+(aw s).2*cro (cz x y w s o) (aw o))*U.2.2):=by
     have:(P0.2.2*t2)*(U.2.1*(aA s o*w))=U.2.1*(P0.2.2*t2)*(aA s o*w):=by grind
     rw[this,uy,y0]
     have:(s.1.2*P0.2.2*t2+(aw s).2*t1*P0.2.2)*U.2.2*(aA s o*w)=P0.2.2*U.2.2*(s.1.2*t2*(aA s o*w)+(aw s).2*(t1*(aA s o*w))):=by grind
     rw[this,le]
     grind
    exact Int.eq_of_mul_eq_mul_left (by have:=Int.mul_pos c0 ct;omega) z1
  generalize cro (cz x y w s o) (aw o)=T1 at *
  generalize cro (cz x y w s o) (aw s)=T2 at *
  generalize hT:aA s o=TT at *
  by_cases hh:b1=true∧b2=true
  ·refine⟨some U,hm _ ?_,fun V e=>?_,fun _ _ _=>⟨U,rfl⟩⟩
   ·obtain⟨z1,z2⟩:=hh
    subst z1;subst z2
    unfold sdP at *
    simp[cF,md1,md2,m1',ht,md3,k1,k2,k3,m2',m3',q1,q2,hP0,hpo,hU',oS]
   ·cases e
    exact⟨oU,ht,M,r1.mp hh.1,r2.mp hh.2⟩
  ·refine⟨none,hm _ ?_,fun V e=>(by cases e),fun _ p1 p2=>absurd ⟨r1.mpr p1,r2.mpr p2⟩ hh⟩
   unfold sdP at *
   cases b1 with
   |false=>simp[cF,md1,md2,m1',ht,md3,k1,k2,k3,m2',m3',q1,oS]
   |true=>
    cases b2 with
    |true=>exact absurd ⟨rfl,rfl⟩ hh
    |false=>simp[cF,md1,md2,m1',ht,md3,k1,k2,k3,m2',m3',q1,q2,oS]
structure Cx (x y w:Int) (s o:Pt×Pt) (V:Sp):Prop where
 ok:Ok 1200 V
 ne:aA s o≠0
 meet:Meet x y w s o V
 p1:part (cro (cz x y w s o) (aw o)) (aA s o*w)
 p2:part (cro (cz x y w s o) (aw s)) (aA s o*w)
def Cd(x y w:Int)(s o:Pt×Pt):Prop:=aA s o≠0∧part (cro (cz x y w s o) (aw o)) (aA s o*w)∧part (cro (cz x y w s o) (aw s)) (aA s o*w)
def PS2(s:Pt×Pt):Prop:=PB 120 s.1∧PB 120 s.2
theorem sj{cs:List Pt}(B:Body cs){s:Pt×Pt}(h:s∈ai cs):PS2 s:=let⟨_,a,b⟩:=dg B h;⟨B.pb _ a,B.pb _ b⟩
section
variable {x y w:Int}(S:Shf x y w)
include S
theorem g8(x0 x1:Option SV){s:Pt×Pt}(hs:PS2 s):∀(os:List (Pt×Pt))(acc:List Sp)(z5 z6:Option SV),(∀o∈os,PS2 o)→acc.length+os.length≤100000 →
  ∃(acc':List Sp)(y5 y6:Option SV),cO (gN 5) cw (os.map sdP) [x0,x1,Y (YT x y w),some (.own (acc.map tP)),Y (sdP s),z5,z6] =
   YN [x0,x1,Y (YT x y w),some (.own (acc'.map tP)),Y (sdP s),y5,y6]∧acc'.length≤acc.length+os.length∧(∀V∈acc,V∈acc')∧(∀V∈acc',V∈acc∨∃o∈os,Cx x y w s o V)∧∀o∈os,Cd x y w s o→∃V∈acc',Cx x y w s o V
 |[],acc,z5,z6,_,_=>⟨acc,z5,z6,rfl,by simp,fun V h=>h,fun V h=>.inl h,fun o h=>by simp at h⟩
 |o::os,acc,z5,z6,ho,hl=>by
  obtain⟨r,hr,r1,r2⟩:=rC hs.1 hs.2 (ho o (.head _)).1 (ho o (.head _)).2 S
  simp only[List.length_cons]at hl
  cases r with
  |none=>
   have hstep:cw [x0,x1,Y (YT x y w),some (.own (acc.map tP)),Y (sdP s),Y (sdP o),z6]=YN [x0,x1,Y (YT x y w),some (.own (acc.map tP)),Y (sdP s),Y (sdP o),Y .non]:=by
    have hi:nk PV.non=true:=rfl
    have hr':cI [sdP s,sdP o,YT x y w]=.ok .non:=hr
    generalize acc.map tP=AA at *
    generalize sdP s=SS at *
    generalize sdP o=OO at *
    simp[cw,hr',hi]
   obtain⟨acc',y5,y6,e,l1,l2,l3,l4⟩:=g8 x0 x1 hs os acc (Y (sdP o)) (Y .non) (fun o' h=>ho o' (.tail _ h)) (by omega)
   refine⟨acc',y5,y6,?_,by simp only[List.length_cons];omega,l2,fun V hV=>?_,fun o' h hc=>?_⟩
   ·rw[List.map_cons,aX (σ1:=[x0,x1,Y (YT x y w),some (.own (acc.map tP)),Y (sdP s),Y (sdP o),z6]) rfl,hstep]
    exact e
   ·rcases l3 V hV with z|⟨o',h1,h2⟩
    ·exact .inl z
    ·exact .inr ⟨o',.tail _ h1,h2⟩
   ·rcases List.mem_cons.mp h with rfl|h
    ·obtain⟨V,e⟩:=r2 hc.1 hc.2.1 hc.2.2;cases e
    ·exact l4 o' h hc
  |some V=>
   obtain⟨v1,v2,v3,v4,v5⟩:=r1 V rfl
   have cx:Cx x y w s o V:=⟨v1,v2,v3,v4,v5⟩
   have hstep:cw [x0,x1,Y (YT x y w),some (.own (acc.map tP)),Y (sdP s),Y (sdP o),z6]=YN [x0,x1,Y (YT x y w),some (.own ((acc++[V]).map tP)),Y (sdP s),Y (sdP o),Y (tP V)]:=by
    have hi:nk (tP V)=false:=rfl
    have hr':cI [sdP s,sdP o,YT x y w]=.ok (tP V):=hr
    have hlen:(acc.map tP).length<10000000:=by rw[List.length_map];omega
    rw[List.map_append,List.map_cons,List.map_nil]
    generalize acc.map tP=AA at *
    generalize sdP s=SS at *
    generalize sdP o=OO at *
    generalize tP V=VV at *
    have ap:lu 3 (ae 6) [x0,x1,Y (YT x y w),some (.own AA),Y SS,Y OO,Y VV]=YN [x0,x1,Y (YT x y w),some (.own (AA++[VV])),Y SS,Y OO,Y VV]:=lr (i:=3) rfl hlen rfl
    simp[cw,hr',hi,ap]
   obtain⟨acc',y5,y6,e,l1,l2,l3,l4⟩:=g8 x0 x1 hs os (acc++[V]) (Y (sdP o)) (Y (tP V)) (fun o' h=>ho o' (.tail _ h)) (by simp only[List.length_append,List.length_singleton];omega)
   simp only[List.length_append,List.length_singleton]at l1
   refine⟨acc',y5,y6,?_,by simp only[List.length_cons];omega,fun U hU=>l2 U (List.mem_append_left _ hU),fun U hU=>?_,fun o' h hc=>?_⟩
   ·rw[List.map_cons,aX (σ1:=[x0,x1,Y (YT x y w),some (.own (acc.map tP)),Y (sdP s),Y (sdP o),z6]) rfl,hstep]
    exact e
   ·rcases l3 U hU with z|⟨o',h1,h2⟩
    ·rcases List.mem_append.mp z with z|z
     ·exact .inl z
     ·rw[List.mem_singleton.mp z];exact .inr ⟨o,.head _,cx⟩
    ·exact .inr ⟨o',.tail _ h1,h2⟩
   ·rcases List.mem_cons.mp h with rfl|h
    ·exact⟨V,l2 V (List.mem_append_right _ (.head _)),cx⟩
    ·exact l4 o' h hc
theorem kq(x0:Option SV){c2:List Pt}(B2:Body c2):∀(ss:List (Pt×Pt))(acc:List Sp)(z4 z5 z6:Option SV),(∀s∈ss,PS2 s)→acc.length+ss.length*c2.length≤100000 →
  ∃(acc':List Sp)(y4 y5 y6:Option SV),cO (gN 4) dG (ss.map sdP) [x0,YL (c2.map ptP),Y (YT x y w),some (.own (acc.map tP)),z4,z5,z6] =
   YN [x0,YL (c2.map ptP),Y (YT x y w),some (.own (acc'.map tP)),y4,y5,y6]∧acc'.length≤acc.length+ss.length*c2.length∧(∀V∈acc,V∈acc')∧(∀V∈acc',V∈acc∨∃s∈ss,∃o∈ai c2,Cx x y w s o V)∧∀s∈ss,∀o∈ai c2,Cd x y w s o→∃V∈acc',Cx x y w s o V
 |[],acc,z4,z5,z6,_,_=>⟨acc,z4,z5,z6,rfl,by simp,fun V h=>h,fun V h=>.inl h,fun s h=>by simp at h⟩
 |s::ss,acc,z4,z5,z6,hs,hl=>by
  have hsd:=oC B2.ne (by have:=B2.len;omega)
  have mul:(s::ss).length*c2.length=c2.length+ss.length*c2.length:=by rw[List.length_cons,Nat.succ_mul,Nat.add_comm]
  rw[mul]at hl
  obtain⟨acc1,y5,y6,e1,a1,a2,a3,a4⟩:=g8 S x0 (YL (c2.map ptP)) (hs s (.head _)) (ai c2) acc z5 z6 (fun o ho=>sj B2 ho) (by rw[eD];omega)
  rw[eD]at a1
  have hstep:dG [x0,YL (c2.map ptP),Y (YT x y w),some (.own (acc.map tP)),Y (sdP s),z5,z6]=YN [x0,YL (c2.map ptP),Y (YT x y w),some (.own (acc1.map tP)),Y (sdP s),y5,y6]:=by
   rw[dG,gE]
   simp only[sM,oX,dr,fh,xl,ar,hsd,fX,kT]
   exact e1
  obtain⟨acc',y4',y5',y6',e,l1,l2,l3,l4⟩:=kq x0 B2 ss acc1 (Y (sdP s)) y5 y6 (fun t h=>hs t (.tail _ h)) (by omega)
  refine⟨acc',y4',y5',y6',?_,by rw[mul];omega,fun V hV=>l2 V (a2 V hV),fun V hV=>?_,fun t h o ho hc=>?_⟩
  ·rw[List.map_cons,aX (σ1:=[x0,YL (c2.map ptP),Y (YT x y w),some (.own (acc.map tP)),Y (sdP s),z5,z6]) rfl,hstep]
   exact e
  ·rcases l3 V hV with z|⟨t,h1,o,h2,h3⟩
   ·rcases a3 V z with z|⟨o,h1,h2⟩
    ·exact .inl z
    ·exact .inr ⟨s,.head _,o,h1,h2⟩
   ·exact .inr ⟨t,.tail _ h1,o,h2,h3⟩
  ·rcases List.mem_cons.mp h with rfl|h
   ·obtain⟨V,h1,h2⟩:=a4 o ho hc
    exact⟨V,l2 V h1,h2⟩
   ·exact l4 t h o ho hc
theorem qa{c1 c2:List Pt}(B1:Body c1)(B2:Body c2):∃F:List Sp,c8 [.lst (c1.map ptP),.lst (c2.map ptP),YT x y w]=.ok (.lst (F.map tP))∧F.length≤3600 ∧
  (∀V∈F,∃s∈ai c1,∃o∈ai c2,Cx x y w s o V)∧∀s∈ai c1,∀o∈ai c2,Cd x y w s o→∃V∈F,Cx x y w s o V:=by
 have l1:=B1.len
 have l2:=B2.len
 have hsd:=oC B1.ne (by omega)
 have hmul:c1.length*c2.length≤60*60:=Nat.mul_le_mul l1 l2
 obtain⟨F,y4,y5,y6,e,a1,a2,a3,a4⟩:=kq S (YL (c1.map ptP)) B2 (ai c1) [] none none none (fun s hs=>sj B1 hs) (by rw[eD];simp;omega)
 rw[eD]at a1
 refine⟨F,?_,by simp at a1;omega,fun V hV=>(a3 V hV).elim (fun z=>by simp at z) id,a4⟩
 have hm:c8 [.lst (c1.map ptP),.lst (c2.map ptP),YT x y w]=fin (dJ [YL (c1.map ptP),YL (c2.map ptP),Y (YT x y w),none,none,none,none]):=by
  unfold c8;rw[mI];rfl
 rw[hm]
 unfold dJ
 rw[bJ,nW]
 simp only[ar,List.set_cons_succ,List.set_cons_zero]
 rw[bJ,gE]
 simp only[sM,oX,dr,fh,f9,ar,hsd,fX,kT]
 rw[List.map_nil]at e
 rw[e]
 simp only[ar]
 rw[fK (i:=3) rfl]
 simp
end
theorem p9{c1 c2:List Pt}(B1:Body c1)(B2:Body c2){x y w u v t:Int}(S:Shf x y w)(D:Shf u v t):∃F:List Sp,a9 [.lst (c1.map ptP),YT x y w,.lst (c2.map ptP),YT u v t]=.ok (.lst (F.map tP))∧F.length≤60 ∧
  (∀V∈F,Ok 400 V∧∃c∈c1,V.1*w=(c.1*w+x)*V.2.2∧V.2.1*w=(c.2*w+y)*V.2.2∧∀s∈ai c2,inH (hpA s) (aG u v t V)) ∧
  ∀c∈c1,∃V:Sp,0<V.2.2∧V.1*w=(c.1*w+x)*V.2.2∧V.2.1*w=(c.2*w+y)*V.2.2∧((∀s∈ai c2,inH (hpA s) (aG u v t V))→V∈F):=by
 have ex:∀c:Pt,∃V:Sp,c∈c1→dv [ptP c,YT x y w]=.ok (tP V)∧Ok 400 V∧V.1*w=(c.1*w+x)*V.2.2∧V.2.1*w=(c.2*w+y)*V.2.2:=fun c=>by
  by_cases h:c∈c1
  ·obtain⟨V,hV⟩:=wu (B1.pb c h) S
   exact⟨V,fun _=>hV⟩
  ·exact⟨(0,0,0),fun z=>absurd z h⟩
 obtain⟨f,hf⟩:∃f:Pt→Sp,∀c,c∈c1→dv [ptP c,YT x y w]=.ok (tP (f c))∧Ok 400 (f c)∧(f c).1*w=(c.1*w+x)*(f c).2.2∧(f c).2.1*w=(c.2*w+y)*(f c).2.2:=⟨fun c=>Classical.choose (ex c),fun c=>Classical.choose_spec (ex c)⟩
 have wex:∀V:Sp,Ok 400 V→∃k:Int,iK [.lst (c2.map ptP),YT u v t,tP V]=.ok (.int k)∧(0≤k↔∀s∈ai c2,inH (hpA s) (aG u v t V)):=fun V hV=>by
  have T:Spt V.1 V.2.1 V.2.2:=⟨hV.pos,Nat.le_trans hV.a (by decide),Nat.le_trans hV.b (by decide),Nat.le_trans hV.c (by decide)⟩
  obtain⟨k,hk,k1,k2,k3⟩:=zp D.spt T B2.fig
  have e:∀s:Pt×Pt,(0≤hnd s (V.1*t-u*V.2.2) (V.2.1*t-v*V.2.2) (t*V.2.2)↔inH (hpA s) (aG u v t V)):=fun s=>by
   have q:hnd s (V.1*t-u*V.2.2) (V.2.1*t-v*V.2.2) (t*V.2.2)=far (nrm s) s.1*(V.2.2*t)-((nrm s).1*(V.1*t-u*V.2.2)+(nrm s).2*(V.2.1*t-v*V.2.2)):=by unfold hnd far nrm;simp only;grind
   rw[q]
   unfold inH hpA aG
   simp only
   constructor<;>intro h<;>omega
  refine⟨k,hk,fun h s hs=>?_,fun h=>?_⟩
  ·rcases Int.lt_or_le (hnd s (V.1*t-u*V.2.2) (V.2.1*t-v*V.2.2) (t*V.2.2)) 0 with z|z
   ·have:=k1 ⟨s,hs,z⟩;omega
   ·exact(e s).mp z
  ·have h':∀s∈ai c2,0≤hnd s (V.1*t-u*V.2.2) (V.2.1*t-v*V.2.2) (t*V.2.2):=fun s hs=>(e s).mpr (h s hs)
   by_cases z:∃s∈ai c2,hnd s (V.1*t-u*V.2.2) (V.2.1*t-v*V.2.2) (t*V.2.2)=0
   ·rw[k2 h' z];decide
   ·rw[k3 fun s hs=>by
     have:=h' s hs
     rcases Int.lt_or_eq_of_le this with y|y
     ·exact y
     ·exact absurd ⟨s,hs,y.symm⟩ z]
    decide
 have hdec:∀V:Sp,Decidable (∀s∈ai c2,inH (hpA s) (aG u v t V)):=fun V=>Classical.propDecidable _
 refine⟨(c1.map f).filter fun V=>@decide _ (hdec V),?_,?_,fun V hV=>?_,fun c hc=>?_⟩
 ·have hspots:(eT 4 (itE (ae 0)) (gN 0) cg 1 [1]) [YL (c1.map ptP),Y (YT x y w),YL (c2.map ptP),Y (YT u v t),none] =
    YN [YL (c1.map ptP),Y (YT x y w),YL (c2.map ptP),Y (YT u v t),YL ((c1.map f).map tP)]:=by
   rw[gG (xs:=c1) (u:=ptP) (v:=fun c=>tP (f c)) rfl (fun c hc=>by
    rw[iQ]
    show noErr (cg [Y (ptP c),Y (YT x y w)])=_
    have:=(hf c hc).1
    simp[cg,this]) (by have:=B1.len;omega),List.map_map]
   rfl
  have hfil:eZ (itE (ae 4)) (gN 0) aZ cf 1 [2,3] [YL (c1.map ptP),Y (YT x y w),YL (c2.map ptP),Y (YT u v t),YL ((c1.map f).map tP)] =
    .ok (.lst ((c1.map f).filterMap fun V=>if @decide _ (hdec V)=true then some (tP V) else none)):=by
   refine nz (xs:=c1.map f) (u:=tP) rfl (fun V hV=>?_) (by rw[List.length_map];have:=B1.len;omega)
   obtain⟨c,hc,rfl⟩:=List.mem_map.mp hV
   obtain⟨k,hk,hiff⟩:=wex (f c) (hf c hc).2.1
   have et:aZ [Y (tP (f c)),YL (c2.map ptP),Y (YT u v t)]=.ok (decide (0≤k)):=by
    generalize tP (f c)=VV at *
    generalize c2.map ptP=C2 at *
    simp[aZ,hk]
   have ed:decide (0≤k)=@decide _ (hdec (f c)):=decide_eq_decide.mpr hiff
   rw[ed]at et
   show df (gN 0) aZ cf [none,YL (c2.map ptP),Y (YT u v t)] (tP (f c))=_
   unfold df
   show(match aZ [Y (tP (f c)),YL (c2.map ptP),Y (YT u v t)] with
    |.ok true=>match noErr (cf [Y (tP (f c)),YL (c2.map ptP),Y (YT u v t)]) with
     |.ok q=>Res.ok (some q)
     |_=>.stuck
    |.ok false=>.ok none
    |_=>.stuck)=_
   rw[et]
   cases hb:@decide _ (hdec (f c)) with
   |true=>rfl
   |false=>rfl
  have hfm:((c1.map f).filterMap fun V=>if @decide _ (hdec V)=true then some (tP V) else none)=((c1.map f).filter fun V=>@decide _ (hdec V)).map tP:=by
   generalize c1.map f=L
   induction L with
   |nil=>rfl
   |cons V L ih=>
    rw[List.filterMap_cons,List.filter_cons,ih]
    cases hb:@decide _ (hdec V) with
    |true=>simp
    |false=>simp
  rw[hfm]at hfil
  have hm:a9 [.lst (c1.map ptP),YT x y w,.lst (c2.map ptP),YT u v t]=fin (bW [YL (c1.map ptP),Y (YT x y w),YL (c2.map ptP),Y (YT u v t),none]):=by
   unfold a9;rw[vq];rfl
  rw[hm]
  unfold bW
  rw[bJ,hspots]
  simp only[ar,vo,hfil,sX]
 ·have:=List.length_filter_le (fun V=>@decide _ (hdec V)) (c1.map f)
  rw[List.length_map]at this
  have:=B1.len
  omega
 ·rw[List.mem_filter]at hV
  obtain⟨c,hc,rfl⟩:=List.mem_map.mp hV.1
  obtain⟨_,h2,h3,h4⟩:=hf c hc
  exact⟨h2,c,hc,h3,h4,@of_decide_eq_true _ (hdec (f c)) hV.2⟩
 ·obtain⟨_,h2,h3,h4⟩:=hf c hc
  exact⟨f c,h2.pos,h3,h4,fun h=>List.mem_filter.mpr ⟨List.mem_map_of_mem hc,@decide_eq_true _ (hdec (f c)) h⟩⟩
def toL(V:Sp):List Int:=[V.1,V.2.1,V.2.2]
theorem ym{U V:Sp}(h:toL U=toL V):U=V:=by
 unfold toL at h
 injection h with h1 h2
 injection h2 with h2 h3
 injection h3 with h3 _
 exact Prod.ext h1 (Prod.ext h2 h3)
theorem Ep{V:Sp}{L:List Sp}:toL V∈L.map toL↔V∈L:=by
 constructor
 ·intro h
  obtain⟨U,hU,e⟩:=List.mem_map.mp h
  rw[←ym e];exact hU
 ·exact fun h=>List.mem_map_of_mem h
theorem ov:∀(F acc:List Sp),acc.Nodup→∃G:List Sp,(F.map toL).foldl pe (acc.map toL)=G.map toL∧G.Nodup∧(∀V,V∈G↔V∈acc∨V∈F)∧G.length≤acc.length+F.length
 |[],acc,h=>⟨acc,rfl,h,fun V=>by simp,by simp⟩
 |V::F,acc,h=>by
  by_cases hm:V∈acc
  ·obtain⟨G,e,n,m,l⟩:=ov F acc h
   refine⟨G,?_,n,fun U=>?_,by simp only[List.length_cons];omega⟩
   ·rw[List.map_cons,List.foldl_cons]
    have:pe (acc.map toL) (toL V)=acc.map toL:=if_pos (Ep.mpr hm)
    rw[this];exact e
   ·rw[m,List.mem_cons]
    constructor
    ·rintro(z|z)
     ·exact .inl z
     ·exact .inr (.inr z)
    ·rintro(z|z|z)
     ·exact .inl z
     ·exact .inl (by rw[z];exact hm)
     ·exact .inr z
  ·have h':(acc++[V]).Nodup:=by
    rw[List.nodup_append]
    refine⟨h,by simp,fun a ha b hb=>?_⟩
    rw[List.mem_singleton.mp hb]
    exact fun z=>hm (z▸ha)
   obtain⟨G,e,n,m,l⟩:=ov F (acc++[V]) h'
   simp only[List.length_append,List.length_singleton]at l
   refine⟨G,?_,n,fun U=>?_,by simp only[List.length_cons];omega⟩
   ·rw[List.map_cons,List.foldl_cons]
    have:pe (acc.map toL) (toL V)=(acc++[V]).map toL:=by
     unfold pe
     rw[if_neg (fun z=>hm (Ep.mp z)),List.map_append];rfl
    rw[this];exact e
   ·rw[m,List.mem_append,List.mem_singleton,List.mem_cons]
    constructor
    ·rintro((z|z)|z)
     ·exact .inl z
     ·exact .inr (.inl z)
     ·exact .inr (.inr z)
    ·rintro(z|z|z)
     ·exact .inl (.inl z)
     ·exact .inl (.inr z)
     ·exact .inr z
def ahB(A B:Sp):Bool:=decide (A.1*B.2.2<B.1*A.2.2)||(decide (A.1*B.2.2=B.1*A.2.2)&&decide (A.2.1*B.2.2<B.2.1*A.2.2))
theorem zx{A B:Sp}(hA:Ok 1200 A)(hB:Ok 1200 B):jL [tP A,tP B]=.ok (.bl (ahB A B)):=by
 have k1:=aq hA.a hB.c (by decide)
 have k2:=aq hB.a hA.c (by decide)
 have k3:=aq hA.b hB.c (by decide)
 have k4:=aq hB.b hA.c (by decide)
 unfold jL ahB;rw[nZ]
 unfold tP
 generalize A.1*B.2.2=P1 at *
 generalize B.1*A.2.2=P2 at *
 generalize A.2.1*B.2.2=P3 at *
 generalize B.2.1*A.2.2=P4 at *
 by_cases h1:P1<P2
 ·simp[iG,k1,k2,k3,k4,h1]
 ·by_cases h2:P1=P2
  ·simp[iG,k1,k2,k3,k4,h1,h2]
  ·simp[iG,k1,k2,k3,k4,h1,h2]
def d0(acc:List Sp)(V:Sp):List Sp:=acc.take (acc.filter fun A=>ahB A V).length++V::acc.drop (acc.filter fun A=>ahB A V).length
theorem gM(acc:List Sp)(V:Sp):(d0 acc V).Perm (V::acc):=by
 unfold d0
 refine List.perm_middle.trans ?_
 rw[List.take_append_drop]
theorem D3{i:Nat}{d1 d2:DE}{σ:PSt}{xs:List PV}{k:Int}{p:PV}(h:σ[i]? = some (some (.own xs)))(hl:xs.length<10000000)(h1:d1 σ=.ok (.int k))(hk:0≤k∧k<1000000000000)(h2:d2 σ=.ok p):
  pP i d1 d2 σ=YN (σ.set i (some (.own (xs.take k.toNat++p::xs.drop k.toNat)))):=by
 unfold pP;rw[h];simp only[hl,if_true,h1,h2,ar,hk,and_self]
theorem Cm{i:Nat}{σ:PSt}{xs:List PV}{d1 d2:DE}{N:Nat}{q:PV}(h:σ[i]? = some (some (.own xs)))(hl:xs.length<10000000)(h1:d1 σ=.ok (.int (N:Int)))(h2:d2 σ=.ok q)(hN:N≤1000000):
  pP i d1 d2 σ=YN (σ.set i (some (.own (xs.take N++q::xs.drop N)))):=D3 h hl h1 ⟨by omega,by omega⟩ h2
theorem lG(x0:Option SV):∀(vs acc:List Sp)(z2 z3:Option SV),(∀V∈vs,Ok 1200 V)→(∀V∈acc,Ok 1200 V)→acc.length+vs.length≤100000 →
  ∃y2 y3,cO (gN 2) er (vs.map tP) [x0,some (.own (acc.map tP)),z2,z3]=YN [x0,some (.own ((vs.foldl d0 acc).map tP)),y2,y3]
 |[],acc,z2,z3,_,_,_=>⟨z2,z3,rfl⟩
 |V::vs,acc,z2,z3,hv,ha,hl=>by
  have hV:=hv V (.head _)
  simp only[List.length_cons]at hl
  have hcomp:eZ (itE (ae 1)) (gN 0) bz b9 1 [2] [x0,YL (acc.map tP),Y (tP V),z3]=.ok (.lst (acc.filterMap fun A=>if ahB A V=true then some (tP A) else none)):=by
   refine nz (xs:=acc) (u:=tP) rfl (fun A hA=>?_) (by omega)
   have hm:=zx (ha A hA) hV
   have et:bz [Y (tP A),Y (tP V)]=.ok (ahB A V):=by
    generalize tP A=AA at *
    generalize tP V=VV at *
    generalize ahB A V=bb at *
    simp[bz,hm]
   show df (gN 0) bz b9 [none,Y (tP V)] (tP A)=_
   unfold df
   show(match bz [Y (tP A),Y (tP V)] with
    |.ok true=>match noErr (b9 [Y (tP A),Y (tP V)]) with
     |.ok q=>Res.ok (some q)
     |_=>.stuck
    |.ok false=>.ok none
    |_=>.stuck)=_
   rw[et]
   cases ahB A V with
   |true=>rfl
   |false=>rfl
  have hfm:(acc.filterMap fun A=>if ahB A V=true then some (tP A) else none)=(acc.filter fun A=>ahB A V).map tP:=by
   generalize acc=L
   induction L with
   |nil=>rfl
   |cons A L ih=>
    rw[List.filterMap_cons,List.filter_cons,ih]
    cases ahB A V with
    |true=>simp
    |false=>simp
  rw[hfm]at hcomp
  have hlen:eA kd (aa (eZ (itE (ae 1)) (gN 0) bz b9 1 [2]) aj) [x0,YL (acc.map tP),Y (tP V),z3]=.ok (.int (((acc.filter fun A=>ahB A V).length:Nat):Int)):=by
   have hb:kd [.lst ((acc.filter fun A=>ahB A V).map tP)]=.ok (.int (((acc.filter fun A=>ahB A V).length:Nat):Int)):=by
    rw[CJ,List.length_map]
   generalize eZ (itE (ae 1)) (gN 0) bz b9 1 [2]=EC at *
   generalize (acc.filter fun A=>ahB A V).map tP=FF at *
   simp only[oX,dr,fh,hcomp,ar,hb]
  have hn:=List.length_filter_le (fun A=>ahB A V) acc
  have hb1:q9 1 3 (eA kd (aa (eZ (itE (ae 1)) (gN 0) bz b9 1 [2]) aj)) [x0,some (.own (acc.map tP)),Y (tP V),z3]=YN [x0,some (.own (acc.map tP)),Y (tP V),YI (((acc.filter fun A=>ahB A V).length:Nat):Int)]:=
   AW (i:=1) (xs:=acc.map tP) rfl hlen
  have hb2:pP 1 (ae 3) (ae 2) [x0,some (.own (acc.map tP)),Y (tP V),YI (((acc.filter fun A=>ahB A V).length:Nat):Int)]=YN [x0,some (.own ((d0 acc V).map tP)),Y (tP V),YI (((acc.filter fun A=>ahB A V).length:Nat):Int)]:=by
   unfold d0
   rw[List.map_append,List.map_cons,List.map_take,List.map_drop]
   generalize hN:(acc.filter fun A=>ahB A V).length=N at *
   exact Cm (i:=1) rfl (by rw[List.length_map];omega) rfl rfl (by omega)
  have hstep:er [x0,some (.own (acc.map tP)),Y (tP V),z3]=YN [x0,some (.own ((d0 acc V).map tP)),Y (tP V),YI (((acc.filter fun A=>ahB A V).length:Nat):Int)]:=by
   rw[er,bJ,hb1]
   exact hb2
  have il:(d0 acc V).length=acc.length+1:=(gM acc V).length_eq
  obtain⟨y2,y3,e⟩:=lG x0 vs (d0 acc V) (Y (tP V)) (YI (((acc.filter fun A=>ahB A V).length:Nat):Int)) (fun U hU=>hv U (.tail _ hU)) (fun U hU=>by
   rcases List.mem_cons.mp ((gM acc V).mem_iff.mp hU) with rfl|h
   ·exact hV
   ·exact ha U h) (by omega)
  refine⟨y2,y3,?_⟩
  rw[List.map_cons,aX (σ1:=[x0,some (.own (acc.map tP)),Y (tP V),z3]) rfl,hstep]
  exact e
theorem sO:∀(vs acc:List Sp),(vs.foldl d0 acc).Perm (acc++vs)
 |[],acc=>by simp
 |V::vs,acc=>by
  refine(sO vs (d0 acc V)).trans ?_
  refine((gM acc V).append_right vs).trans ?_
  exact(List.perm_middle (l₁:=acc) (l₂:=vs) (a:=V)).symm
theorem ro{vs:List Sp}(h:∀V∈vs,Ok 1200 V)(hl:vs.length≤100000):dC [.lst (vs.map tP)]=.ok (.lst ((vs.foldl d0 []).map tP)):=by
 obtain⟨y2,y3,e⟩:=lG (YL (vs.map tP)) vs [] none none h (fun V hV=>by simp at hV) (by simp;exact hl)
 have hm:dC [.lst (vs.map tP)]=fin (e7 [YL (vs.map tP),none,none,none]):=by
  unfold dC;rw[pQ];rfl
 rw[hm]
 unfold e7
 rw[bJ,nW]
 simp only[ar,List.set_cons_succ,List.set_cons_zero]
 rw[bJ,gE]
 simp only[sM,f9,ar,kT]
 rw[List.map_nil]at e
 rw[e]
 simp only[ar]
 rw[fK (i:=1) rfl]
 simp
theorem gh{cs:List Pt}(B:Body cs){c:Pt}(hc:c∈cs){V:Sp}(hr:0<V.2.2)(e1:V.1=c.1*V.2.2)(e2:V.2.1=c.2*V.2.2):(∀t∈ai cs,inH (hpA t) V)∧∃s∈ai cs,∃t∈ai cs,cro (nrm s) (nrm t)≠0∧onH (hpA s) V∧onH (hpA t) V:=by
 have h3:=B.three
 obtain⟨k,hk,ek⟩:=List.mem_iff_getElem.mp hc
 have ka:cs[k]? = some c:=by rw[List.getElem?_eq_getElem hk,ek]
 have h2:(k+1) % cs.length<cs.length:=Nat.mod_lt _ (by omega)
 have hs:(c,cs[(k+1) % cs.length])∈ai cs:=List.mem_of_getElem? (eG ka (List.getElem?_eq_getElem h2))
 obtain⟨s0,m0,_,_,z0,_,k0,_⟩:=xN B hs
 have val:∀t:Pt×Pt,(nrm t).1*V.1+(nrm t).2*V.2.1=far (nrm t) c*V.2.2:=fun t=>by rw[e1,e2];unfold far;grind
 refine⟨fun t ht=>?_,s0,m0,_,hs,?_,?_,?_⟩
 ·unfold inH hpA
  simp only
  rw[val]
  exact Int.mul_le_mul_of_nonneg_right ((dg B ht).1 c hc) (Int.le_of_lt hr)
 ·have e:cro (nrm s0) (nrm (c,cs[(k+1) % cs.length]))=cro (aw s0) (aw (c,cs[(k+1) % cs.length])):=by unfold cro nrm aw;simp only;grind
  omega
 ·unfold onH hpA
  simp only
  rw[val]
  have:far (nrm s0) s0.1=far (nrm s0) c:=by rw[←show s0.2=c from z0];unfold far nrm;simp only;grind
  rw[this]
 ·unfold onH hpA
  simp only
  rw[val]
theorem wq{c1 c2:List Pt}(B1:Body c1)(B2:Body c2){x y w:Int}(S:Shf x y w):∃G:List Sp,dP [.lst (c1.map ptP),.lst (c2.map ptP),YT x y w]=.ok (.lst ((G.foldl d0 []).map tP))∧G.Nodup∧G.length≤4000∧(∀V∈G,Ok 1200 V∧Vtx (hps c1 c2 x y w) V)∧∀V,Vtx (hps c1 c2 x y w) V→∃U∈G,pv V U:=by
 have wp:=S.pos
 obtain⟨F1,m1,l1,a1,b1⟩:=p9 B1 B2 jt S
 obtain⟨F2,m2,l2,a2,b2⟩:=p9 B2 B1 S jt
 obtain⟨F3,m3,l3,a3,b3⟩:=qa S B1 B2
 obtain⟨G,e,nd,mem,gl⟩:=ov (F1++F2++F3) [] List.nodup_nil
 have rel0:∀V:Sp,aG 0 0 1 V=V:=fun V=>Prod.ext (by show V.1*1-0*V.2.2=V.1;omega) (Prod.ext (by show V.2.1*1-0*V.2.2=V.2.1;omega) (by show V.2.2*1=V.2.2;omega))
 have relc:∀{V:Sp}{c:Pt},V.1*w=(c.1*w+x)*V.2.2→V.2.1*w=(c.2*w+y)*V.2.2→(aG x y w V).1=c.1*(aG x y w V).2.2∧(aG x y w V).2.1=c.2*(aG x y w V).2.2:=fun {V c} z1 z2=>by
  unfold aG;simp only
  constructor
  ·rw[z1];grind
  ·rw[z2];grind
 have good:∀V∈F1++F2++F3,Ok 1200 V∧Vtx (hps c1 c2 x y w) V:=fun V hV=>by
  rcases List.mem_append.mp hV with hV|hV
  ·rcases List.mem_append.mp hV with hV|hV
   ·obtain⟨o,c,hc,z1,z2,inB⟩:=a1 V hV
    simp only[Int.mul_one,Int.add_zero]at z1 z2
    obtain⟨inA,s,hs,t,ht,hn,os,ot⟩:=gh B1 hc o.pos z1 z2
    refine⟨o.up (by decide),o.pos,fun l hl=>?_,hpA s,List.mem_append_left _ (List.mem_map_of_mem hs),hpA t,List.mem_append_left _ (List.mem_map_of_mem ht),hn,os,ot⟩
    rcases List.mem_append.mp hl with hl|hl
    ·obtain⟨q,hq,rfl⟩:=List.mem_map.mp hl;exact inA q hq
    ·obtain⟨q,hq,rfl⟩:=List.mem_map.mp hl;exact cW.1.mpr (inB q hq)
   ·obtain⟨o,c,hc,z1,z2,inA⟩:=a2 V hV
    obtain⟨r1,r2⟩:=relc z1 z2
    obtain⟨inB,s,hs,t,ht,hn,os,ot⟩:=gh B2 hc (Int.mul_pos o.pos wp:0<(aG x y w V).2.2) r1 r2
    refine⟨o.up (by decide),o.pos,fun l hl=>?_,hpB x y w s,List.mem_append_right _ (List.mem_map_of_mem hs),hpB x y w t,List.mem_append_right _ (List.mem_map_of_mem ht),?_,cW.2.mpr os,cW.2.mpr ot⟩
    ·rcases List.mem_append.mp hl with hl|hl
     ·obtain⟨q,hq,rfl⟩:=List.mem_map.mp hl
      have:=inA q hq
      rw[rel0]at this
      exact this
     ·obtain⟨q,hq,rfl⟩:=List.mem_map.mp hl;exact cW.1.mpr (inB q hq)
    ·have e':(hpB x y w s).1*(hpB x y w t).2.1-(hpB x y w s).2.1*(hpB x y w t).1=w*(w*cro (nrm s) (nrm t)):=by unfold hpB cro;simp only;grind
     rw[e']
     exact fun z=>(Int.mul_eq_zero.mp z).elim (by omega) fun z=>(Int.mul_eq_zero.mp z).elim (by omega) hn
  ·obtain⟨s,hs,o,ho,cx⟩:=a3 V hV
   exact⟨cx.ok,zm B1 B2 wp hs ho cx.ok.pos cx.meet cx.ne cx.p1 cx.p2⟩
 have memG:∀V,V∈G↔V∈F1++F2++F3:=fun V=>(mem V).trans ⟨fun z=>z.elim (fun z=>by simp at z) id,.inr⟩
 have okG:∀V∈G,Ok 1200 V:=fun V hV=>(good V ((memG V).mp hV)).1
 have ll:(F1++F2++F3).length≤4000:=by simp only[List.length_append];omega
 have hord:=ro okG (by simp only[List.length_nil]at gl;omega)
 refine⟨G,?_,nd,by simp only[List.length_nil]at gl;omega,fun V hV=>good V ((memG V).mp hV),fun V hV=>?_⟩
 ·have hadd1:aS (.lst (F1.map tP)) (.lst (F2.map tP))=.ok (.lst ((F1++F2).map tP)):=by rw[oq (by rw[List.length_map,List.length_map];omega),List.map_append]
  have hadd2:aS (.lst ((F1++F2).map tP)) (.lst (F3.map tP))=.ok (.lst ((F1++F2++F3).map tP)):=by rw[oq (by rw[List.length_map,List.length_map,List.length_append];omega),List.map_append (l₁:=F1++F2)]
  have hcomp:c6 (itE (ae 3)) (gN 0) eY 1 [] [YL (c1.map ptP),YL (c2.map ptP),Y (YT x y w),YL ((F1++F2++F3).map tP)]=.ok (.lst ((F1++F2++F3).map fun V=>.tup [tP V,.bl true])):=
   fR (xs:=F1++F2++F3) (u:=tP) (v:=fun V=>.tup [tP V,.bl true]) rfl (fun V _=>by
    rw[iQ]
    show noErr (eY [Y (tP V)])=_
    generalize tP V=VV
    simp[eY]) (by omega)
  have hkeys:pKeys (.lst ((F1++F2++F3).map fun V=>.tup [tP V,.bl true]))=.ok (.lst (G.map tP)):=by
   have h:=ze (ks:=(F1++F2++F3).map toL) (by rw[List.length_map];omega)
   rw[List.map_map]at h
   have e2:sE ((F1++F2++F3).map toL)=G.map toL:=e
   rw[e2,List.map_map]at h
   exact h
  have hm:dP [.lst (c1.map ptP),.lst (c2.map ptP),YT x y w]=fin (gZ [YL (c1.map ptP),YL (c2.map ptP),Y (YT x y w),none]):=by
   unfold dP;rw[mI];rfl
  rw[hm]
  generalize (F1++F2++F3).map (fun V=>PV.tup [tP V,.bl true])=KK at *
  generalize (F1++F2++F3).map tP=FF at *
  generalize (F1++F2).map tP=F12 at *
  generalize F1.map tP=FF1 at *
  generalize F2.map tP=FF2 at *
  generalize F3.map tP=FF3 at *
  generalize (G.foldl d0 []).map tP=GG2 at *
  generalize G.map tP=GG at *
  generalize c1.map ptP=C1 at *
  generalize c2.map ptP=C2 at *
  unfold gZ
  generalize c6 (itE (ae 3)) (gN 0) eY 1 []=EC at *
  simp[m1,m2,m3,hadd1,hadd2,hcomp,hkeys,hord]
 ·have hr:=hV.pos
  rcases tK B1 B2 wp hV with ⟨c,hc,z1,z2⟩|⟨c,hc,z1,z2⟩|⟨s,hs,o,ho,ht,M,p1,p2⟩
  ·obtain⟨U,u0,u1,u2,uin⟩:=b1 c hc
   simp only[Int.mul_one,Int.add_zero]at u1 u2
   refine⟨U,(memG U).mpr (List.mem_append_left _ (List.mem_append_left _ (uin fun t ht=>?_))),by unfold pv;rw[z1,u1];constructor<;>grind⟩
   have iv:=cW.1.mp (hV.all _ (List.mem_append_right _ (List.mem_map_of_mem (f:=hpB x y w) ht)))
   unfold inH hpA aG at *
   simp only at *
   have k:∀W:Sp,W.1=c.1*W.2.2→W.2.1=c.2*W.2.2→far (nrm t) t.1*(W.2.2*w)-((nrm t).1*(W.1*w-x*W.2.2)+(nrm t).2*(W.2.1*w-y*W.2.2))=W.2.2*(far (nrm t) t.1*w-((nrm t).1*(c.1*w-x)+(nrm t).2*(c.2*w-y))):=fun W e1 e2=>by rw[e1,e2];grind
   have kV:=k V z1 z2
   have kU:=k U u1 u2
   have:=bB hr (show 0≤V.2.2*(far (nrm t) t.1*w-((nrm t).1*(c.1*w-x)+(nrm t).2*(c.2*w-y))) by omega)
   have:=Int.mul_nonneg (Int.le_of_lt u0) this
   omega
  ·obtain⟨U,u0,u1,u2,uin⟩:=b2 c hc
   have zz1:V.1*w=(c.1*w+x)*V.2.2:=by unfold aG at z1;simp only at z1;grind
   have zz2:V.2.1*w=(c.2*w+y)*V.2.2:=by unfold aG at z2;simp only at z2;grind
   refine⟨U,(memG U).mpr (List.mem_append_left _ (List.mem_append_right _ (uin fun t ht=>?_))),?_⟩
   ·rw[rel0]
    have iv:=hV.all _ (List.mem_append_left _ (List.mem_map_of_mem (f:=hpA) ht))
    unfold inH hpA at *
    simp only at *
    have k:∀W:Sp,W.1*w=(c.1*w+x)*W.2.2→W.2.1*w=(c.2*w+y)*W.2.2→w*(far (nrm t) t.1*W.2.2-((nrm t).1*W.1+(nrm t).2*W.2.1))=W.2.2*(w*far (nrm t) t.1-((nrm t).1*(c.1*w+x)+(nrm t).2*(c.2*w+y))):=fun W e1 e2=>by
     have:w*(far (nrm t) t.1*W.2.2-((nrm t).1*W.1+(nrm t).2*W.2.1))=w*far (nrm t) t.1*W.2.2-((nrm t).1*(W.1*w)+(nrm t).2*(W.2.1*w)):=by grind
     rw[this,e1,e2];grind
    have kV:=k V zz1 zz2
    have kU:=k U u1 u2
    have q1:=Int.mul_nonneg (Int.le_of_lt wp) (show 0≤far (nrm t) t.1*V.2.2-((nrm t).1*V.1+(nrm t).2*V.2.1) by omega)
    rw[kV]at q1
    have q2:=Int.mul_nonneg (Int.le_of_lt u0) (bB hr q1)
    rw[←kU]at q2
    have:=bB wp q2
    omega
   ·unfold pv
    constructor
    ·have:w*(V.1*U.2.2)=w*(U.1*V.2.2):=by
      have a1:w*(V.1*U.2.2)=V.1*w*U.2.2:=by grind
      have a2:w*(U.1*V.2.2)=U.1*w*V.2.2:=by grind
      rw[a1,a2,zz1,u1];grind
     exact Int.eq_of_mul_eq_mul_left (by omega) this
    ·have:w*(V.2.1*U.2.2)=w*(U.2.1*V.2.2):=by
      have a1:w*(V.2.1*U.2.2)=V.2.1*w*U.2.2:=by grind
      have a2:w*(U.2.1*V.2.2)=U.2.1*w*V.2.2:=by grind
      rw[a1,a2,zz2,u2];grind
     exact Int.eq_of_mul_eq_mul_left (by omega) this
  ·obtain⟨U,hU,cx⟩:=b3 s hs o ho ⟨ht,p1,p2⟩
   refine⟨U,(memG U).mpr (List.mem_append_right _ hU),?_⟩
   have hb:aA s o*w≠0:=fun z=>(Int.mul_eq_zero.mp z).elim ht (by omega)
   have g1:=M.e1
   have g2:=M.e2
   have k1:=cx.meet.e1
   have k2:=cx.meet.e2
   unfold pv
   constructor
   ·have:(aA s o*w)*(V.1*U.2.2)=(aA s o*w)*(U.1*V.2.2):=by
     have a1:(aA s o*w)*(V.1*U.2.2)=V.1*(aA s o*w)*U.2.2:=by grind
     have a2:(aA s o*w)*(U.1*V.2.2)=U.1*(aA s o*w)*V.2.2:=by grind
     rw[a1,a2,g1,k1];grind
    exact Int.eq_of_mul_eq_mul_left hb this
   ·have:(aA s o*w)*(V.2.1*U.2.2)=(aA s o*w)*(U.2.1*V.2.2):=by
     have a1:(aA s o*w)*(V.2.1*U.2.2)=V.2.1*(aA s o*w)*U.2.2:=by grind
     have a2:(aA s o*w)*(U.2.1*V.2.2)=U.2.1*(aA s o*w)*V.2.2:=by grind
     rw[a1,a2,g2,k2];grind
    exact Int.eq_of_mul_eq_mul_left hb this
theorem tD{x y r s p q:Int}(h:gI (gI x y) r=1)(e1:p*r=x*s)(e2:q*r=y*s):r ∣ s:=by
 have k:Nat.gcd (Nat.gcd x.natAbs y.natAbs) r.natAbs=1:=by rw[kM]at h;exact Int.ofNat_inj.mp h
 have f1:r.natAbs ∣ x.natAbs*s.natAbs:=⟨p.natAbs,by rw[←Int.natAbs_mul,←e1,Int.natAbs_mul,Nat.mul_comm]⟩
 have f2:r.natAbs ∣ y.natAbs*s.natAbs:=⟨q.natAbs,by rw[←Int.natAbs_mul,←e2,Int.natAbs_mul,Nat.mul_comm]⟩
 have f3:r.natAbs ∣ Nat.gcd x.natAbs y.natAbs*s.natAbs:=by rw[←Nat.gcd_mul_right];exact Nat.dvd_gcd f1 f2
 have cp:Nat.Coprime r.natAbs (Nat.gcd x.natAbs y.natAbs):=by unfold Nat.Coprime;rw[Nat.gcd_comm];exact k
 exact Int.natAbs_dvd_natAbs.mp (cp.dvd_of_dvd_mul_left f3)
theorem oy{j k:Nat}{A B:Sp}(hA:Ok j A)(hB:Ok k B)(h:dif A B=(0,0)):A=B:=by
 have h':=(Prod.mk.injEq ..).mp h
 have d1:=tD hA.one (s:=B.2.2) (p:=B.1) (q:=B.2.1) (by omega) (by omega)
 have d2:=tD hB.one (s:=A.2.2) (p:=A.1) (q:=A.2.1) (by omega) (by omega)
 have e:A.2.2=B.2.2:=Int.dvd_antisymm (Int.le_of_lt hA.pos) (Int.le_of_lt hB.pos) d1 d2
 have bp:=hB.pos
 rw[e]at h'
 refine Prod.ext ?_ (Prod.ext ?_ e)
 ·exact(Int.eq_of_mul_eq_mul_right (by omega:B.2.2≠0) (by omega:A.1*B.2.2=B.1*B.2.2))
 ·exact(Int.eq_of_mul_eq_mul_right (by omega:B.2.2≠0) (by omega:A.2.1*B.2.2=B.2.1*B.2.2))
theorem Dq{a b c p q r:Int}(hp:0<p)(hq:0<q)(hr:0<r):(a*q<b*p→b*r≤c*q→a*r<c*p)∧(a*q≤b*p→b*r<c*q→a*r<c*p)∧(a*q=b*p→b*r=c*q→a*r=c*p):=by
 have e1:a*q*r=a*r*q:=by grind
 have e2:b*p*r=b*r*p:=by grind
 have e3:c*q*p=c*p*q:=by grind
 refine⟨fun h1 h2=>?_,fun h1 h2=>?_,fun h1 h2=>?_⟩
 ·have k1:=Int.mul_lt_mul_of_pos_right h1 hr
  have k2:=Int.mul_le_mul_of_nonneg_right h2 (Int.le_of_lt hp)
  exact Int.lt_of_mul_lt_mul_right (a:=q) (by omega) (Int.le_of_lt hq)
 ·have k1:=Int.mul_le_mul_of_nonneg_right h1 (Int.le_of_lt hr)
  have k2:=Int.mul_lt_mul_of_pos_right h2 hp
  exact Int.lt_of_mul_lt_mul_right (a:=q) (by omega) (Int.le_of_lt hq)
 ·have k1:a*q*r=b*p*r:=by rw[h1]
  have k2:b*r*p=c*q*p:=by rw[h2]
  exact Int.eq_of_mul_eq_mul_right (by omega:q≠0) (by omega)
theorem mm(A B:Sp):ahB A B=true↔A.1*B.2.2<B.1*A.2.2∨(A.1*B.2.2=B.1*A.2.2∧A.2.1*B.2.2<B.2.1*A.2.2):=by
 unfold ahB
 rw[Bool.or_eq_true,Bool.and_eq_true,decide_eq_true_iff,decide_eq_true_iff,decide_eq_true_iff]
theorem ya{A B C:Sp}(hA:0<A.2.2)(hB:0<B.2.2)(hC:0<C.2.2)(h1:ahB A B=true)(h2:ahB B C=true):ahB A C=true:=by
 rw[mm]at *
 obtain⟨u1,u2,u3⟩:=Dq (a:=A.1) (b:=B.1) (c:=C.1) hA hB hC
 obtain⟨v1,v2,_⟩:=Dq (a:=A.2.1) (b:=B.2.1) (c:=C.2.1) hA hB hC
 rcases h1 with h1|⟨h1,h1'⟩
 ·rcases h2 with h2|⟨h2,_⟩
  ·exact .inl (u1 h1 (Int.le_of_lt h2))
  ·exact .inl (u1 h1 (Int.le_of_eq h2))
 ·rcases h2 with h2|⟨h2,h2'⟩
  ·exact .inl (u2 (Int.le_of_eq h1) h2)
  ·exact .inr ⟨u3 h1 h2,v1 h1' (Int.le_of_lt h2')⟩
theorem tG{A B:Sp}(h:ahB A B=true):ahB B A=false:=by
 rw[mm]at h
 cases e:ahB B A with
 |false=>rfl
 |true=>rw[mm]at e;omega
theorem CM{k:Nat}{A B:Sp}(hA:Ok k A)(hB:Ok k B)(hne:A≠B)(h:ahB A B=false):ahB B A=true:=by
 have h':¬ahB A B=true:=by rw[h];simp
 rw[mm]at h' ⊢
 rcases Int.lt_trichotomy (A.1*B.2.2) (B.1*A.2.2) with z|z|z
 ·exact absurd (.inl z) h'
 ·rcases Int.lt_trichotomy (A.2.1*B.2.2) (B.2.1*A.2.2) with y|y|y
  ·exact absurd (.inr ⟨z,y⟩) h'
  ·refine absurd (oy hA hB (Prod.ext ?_ ?_)) hne
   ·show B.1*A.2.2-A.1*B.2.2=0;omega
   ·show B.2.1*A.2.2-A.2.1*B.2.2=0;omega
  ·exact .inr ⟨z.symm,y⟩
 ·exact .inl z
theorem lU{k:Nat}{V:Sp}(hV:Ok k V):∀(acc:List Sp),(∀A∈acc,Ok k A)→V∉acc→acc.Pairwise (fun A B=>ahB A B=true)→(d0 acc V).Pairwise (fun A B=>ahB A B=true)
 |[],_,_,_=>by simp[d0]
 |A::r,hok,hm,hp=>by
  obtain⟨p1,p2⟩:=List.pairwise_cons.mp hp
  have hA:=hok A (.head _)
  cases e:ahB A V with
  |true=>
   have ei:d0 (A::r) V=A::d0 r V:=by
    unfold d0
    rw[List.filter_cons,if_pos e]
    simp
   rw[ei]
   refine List.pairwise_cons.mpr ⟨fun B hB=>?_,lU hV r (fun B hB=>hok B (.tail _ hB)) (fun z=>hm (.tail _ z)) p2⟩
   rcases List.mem_cons.mp ((gM r V).mem_iff.mp hB) with rfl|hB
   ·exact e
   ·exact p1 B hB
  |false=>
   have hVA:=CM hA hV (fun z=>hm (by rw[z];exact .head _)) e
   have all:∀B∈A::r,ahB V B=true:=fun B hB=>by
    rcases List.mem_cons.mp hB with rfl|hB
    ·exact hVA
    ·exact ya hV.pos hA.pos (hok B (.tail _ hB)).pos hVA (p1 B hB)
   have ef:(A::r).filter (fun B=>ahB B V)=[]:=List.filter_eq_nil_iff.mpr fun B hB=>by
    rw[tG (all B hB)];simp
   have ei:d0 (A::r) V=V::A::r:=by
    unfold d0
    rw[ef]
    rfl
   rw[ei]
   exact List.pairwise_cons.mpr ⟨all,hp⟩
theorem mi{k:Nat}:∀(vs acc:List Sp),(∀V∈acc++vs,Ok k V)→(acc++vs).Nodup→acc.Pairwise (fun A B=>ahB A B=true)→(vs.foldl d0 acc).Pairwise (fun A B=>ahB A B=true)
 |[],acc,_,_,hp=>hp
 |V::vs,acc,hok,hn,hp=>by
  have hm:V∉acc:=fun z=>by
   have:=(List.nodup_append.mp hn).2.2 V z V (.head _)
   exact this rfl
  have pm:(d0 acc V++vs).Perm (acc++V::vs):=((gM acc V).append_right vs).trans (List.perm_middle (l₁:=acc) (l₂:=vs) (a:=V)).symm
  exact mi vs (d0 acc V) (fun U hU=>hok U (pm.mem_iff.mp hU)) (pm.nodup_iff.mpr hn)
   (lU (hok V (List.mem_append_right _ (.head _))) acc (fun A hA=>hok A (List.mem_append_left _ hA)) hm hp)
theorem CN{A B:Sp}(h:ahB A B=true):dif A B≠(0,0):=fun z=>by
 have z':=(Prod.mk.injEq ..).mp z
 rw[mm]at h
 omega
theorem ER{c1 c2:List Pt}(B1:Body c1){x y w:Int}{c:Pt}(hc:c∈c1){V:Sp}(hr:0<V.2.2)(e1:V.1=c.1*V.2.2)(e2:V.2.1=c.2*V.2.2)(inB:∀t∈ai c2,inH (hpA t) (aG x y w V)):Vtx (hps c1 c2 x y w) V:=by
 obtain⟨inA,s,hs,t,ht,hn,os,ot⟩:=gh B1 hc hr e1 e2
 refine⟨hr,fun l hl=>?_,hpA s,List.mem_append_left _ (List.mem_map_of_mem hs),hpA t,List.mem_append_left _ (List.mem_map_of_mem ht),hn,os,ot⟩
 rcases List.mem_append.mp hl with hl|hl
 ·obtain⟨q,hq,rfl⟩:=List.mem_map.mp hl;exact inA q hq
 ·obtain⟨q,hq,rfl⟩:=List.mem_map.mp hl;exact cW.1.mpr (inB q hq)
theorem EN{c1 c2:List Pt}(B2:Body c2){x y w:Int}(wp:0<w){c:Pt}(hc:c∈c2){V:Sp}(hr:0<V.2.2)(z1:V.1*w=(c.1*w+x)*V.2.2)(z2:V.2.1*w=(c.2*w+y)*V.2.2)(inA:∀t∈ai c1,inH (hpA t) V):Vtx (hps c1 c2 x y w) V:=by
 have r1:(aG x y w V).1=c.1*(aG x y w V).2.2:=by unfold aG;simp only;rw[z1];grind
 have r2:(aG x y w V).2.1=c.2*(aG x y w V).2.2:=by unfold aG;simp only;rw[z2];grind
 obtain⟨inB,s,hs,t,ht,hn,os,ot⟩:=gh B2 hc (Int.mul_pos hr wp:0<(aG x y w V).2.2) r1 r2
 refine⟨hr,fun l hl=>?_,hpB x y w s,List.mem_append_right _ (List.mem_map_of_mem hs),hpB x y w t,List.mem_append_right _ (List.mem_map_of_mem ht),?_,cW.2.mpr os,cW.2.mpr ot⟩
 ·rcases List.mem_append.mp hl with hl|hl
  ·obtain⟨q,hq,rfl⟩:=List.mem_map.mp hl;exact inA q hq
  ·obtain⟨q,hq,rfl⟩:=List.mem_map.mp hl;exact cW.1.mpr (inB q hq)
 ·have e':(hpB x y w s).1*(hpB x y w t).2.1-(hpB x y w s).2.1*(hpB x y w t).1=w*(w*cro (nrm s) (nrm t)):=by unfold hpB cro;simp only;grind
  rw[e']
  exact fun z=>(Int.mul_eq_zero.mp z).elim (by omega) fun z=>(Int.mul_eq_zero.mp z).elim (by omega) hn
structure Told (c1 c2:List Pt) (x y w:Int) (T:List Sp):Prop where
 ok:∀V∈T,Ok 1200 V
 vtx:∀V∈T,Vtx (hps c1 c2 x y w) V
 srt:T.Pairwise fun A B=>ahB A B=true
 len:T.length≤4000
 all:∀V,Vtx (hps c1 c2 x y w) V→∃U∈T,pv V U
theorem BX{c1 c2:List Pt}(B1:Body c1)(B2:Body c2){x y w:Int}(S:Shf x y w):∃T:List Sp,dP [.lst (c1.map ptP),.lst (c2.map ptP),YT x y w]=.ok (.lst (T.map tP))∧Told c1 c2 x y w T:=by
 obtain⟨G,e,nd,gl,good,all⟩:=wq B1 B2 S
 have pm:(G.foldl d0 []).Perm G:=sO G []
 refine⟨_,e,fun V hV=>(good V (pm.mem_iff.mp hV)).1,fun V hV=>(good V (pm.mem_iff.mp hV)).2,?_,by rw[pm.length_eq];exact gl,fun V hV=>?_⟩
 ·exact mi G [] (fun V hV=>(good V hV).1) nd List.Pairwise.nil
 ·obtain⟨U,hU,l⟩:=all V hV
  exact⟨U,pm.mem_iff.mpr hU,l⟩
theorem Told.has{c1 c2:List Pt}{x y w:Int}{T:List Sp}(H:Told c1 c2 x y w T){k:Nat}{V:Sp}(hV:Ok k V)(hx:Vtx (hps c1 c2 x y w) V):V∈T:=by
 obtain⟨U,hU,l1,l2⟩:=H.all V hx
 have:V=U:=oy hV (H.ok U hU) (Prod.ext (by show U.1*V.2.2-V.1*U.2.2=0;omega) (by show U.2.1*V.2.2-V.2.1*U.2.2=0;omega))
 rw[this];exact hU
theorem o9{xs:List PV}{k:Nat}{p:PV}(hk:k<xs.length)(h:xs[(k+(xs.length-1)) % xs.length]? = some p):atR xs ((k:Int)-1) id=.ok p:=by
 cases k with
 |zero=>
  rw[Nat.zero_add,Nat.mod_eq_of_lt (by omega)]at h
  unfold atR atI ixN
  rw[if_neg (by omega),if_pos (by omega)]
  have e:(((0:Nat):Int)-1+(xs.length:Int)).toNat=xs.length-1:=by omega
  rw[e]
  simp[h]
 |succ j=>
  have e:(((j+1:Nat):Int)-1)=(j:Int):=by omega
  rw[e]
  have:(j+1+(xs.length-1)) % xs.length=j:=by
   rw[show j+1+(xs.length-1)=j+xs.length by omega,Nat.add_mod_right,Nat.mod_eq_of_lt (by omega)]
  rw[this]at h
  exact gm h
def cA(cs:List Pt)(k:Nat):Pt×Pt:=(cs.getD ((k+(cs.length-1)) % cs.length) (0,0),cs.getD k (0,0))
theorem jm{cs:List Pt}{k:Nat}(h:k<cs.length):cs[(k+(cs.length-1)) % cs.length]? = some (cA cs k).1∧cs[k]? = some (cA cs k).2:=by
 have h2:(k+(cs.length-1)) % cs.length<cs.length:=Nat.mod_lt _ (by omega)
 have ha:cs[k]? = some cs[k]:=List.getElem?_eq_getElem h
 have hb:cs[(k+(cs.length-1)) % cs.length]? = some cs[(k+(cs.length-1)) % cs.length]:=List.getElem?_eq_getElem h2
 simp[cA,List.getD_eq_getElem?_getD,ha,hb]
theorem si{cs:List Pt}{k:Nat}(h:k<cs.length):cA cs k∈ai cs:=by
 obtain⟨a,b⟩:=jm h
 have e:((k+(cs.length-1)) % cs.length+1) % cs.length=k:=by
  rw[Nat.mod_add_mod,show k+(cs.length-1)+1=k+cs.length by omega,Nat.add_mod_right,Nat.mod_eq_of_lt h]
 exact List.mem_of_getElem? (eG a (by rw[e];exact b))
theorem jP{cs:List Pt}{s:Pt×Pt}(h:s∈ai cs):∃k,k<cs.length∧cA cs k=s:=by
 obtain⟨j,ha,hb⟩:=fJ h
 have hj:j<cs.length:=(List.getElem?_eq_some_iff.mp ha).1
 have hk:(j+1) % cs.length<cs.length:=Nat.mod_lt _ (by omega)
 refine⟨(j+1) % cs.length,hk,?_⟩
 obtain⟨a,b⟩:=jm hk
 have e:((j+1) % cs.length+(cs.length-1)) % cs.length=j:=by
  rw[Nat.mod_add_mod,show j+1+(cs.length-1)=j+cs.length by omega,Nat.add_mod_right,Nat.mod_eq_of_lt hj]
 rw[e,ha]at a
 rw[hb]at b
 exact Prod.ext (Option.some.inj a).symm (Option.some.inj b).symm
section
variable {c1 c2:List Pt}(B1:Body c1)(B2:Body c2)
theorem BU{cs:List Pt}(B:Body cs)(n:Pt):iU [.lst (cs.map fun q=>PV.int (far n q))]=.ok (.int (lo cs n)):=by
 cases cs with
 |nil=>exact absurd rfl B.ne
 |cons c r=>
  have e:((c::r).map fun q=>PV.int (far n q))=(far n c::r.map (far n)).map PV.int:=by simp
  rw[e,o6];rfl
theorem wm{cs:List Pt}(B:Body cs)(n:Pt):dY [.lst (cs.map fun q=>PV.int (far n q))]=.ok (.int (hi cs n)):=by
 cases cs with
 |nil=>exact absurd rfl B.ne
 |cons c r=>
  have e:((c::r).map fun q=>PV.int (far n q))=(far n c::r.map (far n)).map PV.int:=by simp
  rw[e,o7];rfl
include B1 B2
theorem BZ{x y w:Int}(hx:intBits x≤10000)(hy:intBits y≤10000)(hw:intBits w≤10000){n:Pt}(hn:PB 2000 n):
  dD [.lst (c1.map ptP),.lst (c2.map ptP),YT x y w,ptP n]=.ok (.int (cE c1 c2 x y w n)):=by
 have k1:c6 (itE (ae 1)) (gN 0) dq 1 [3] [YL (c1.map ptP),YL (c2.map ptP),Y (YT x y w),Y (ptP n),none,none]=.ok (.lst (c2.map fun q=>.int (far n q))):=
  fR (xs:=c2) (u:=ptP) (v:=fun q=>.int (far n q)) rfl (fun q hq=>by
   have pq:=B2.pb q hq
   rw[iQ];show noErr (dq [Y (ptP q),Y (ptP n)])=_;simp[dq,aq pq.1 hn.1 (by decide),aq pq.2 hn.2 (by decide),far]) (by have:=B2.len;omega)
 have k2:∀z,c6 (itE (ae 0)) (gN 0) dm 1 [3] [YL (c1.map ptP),YL (c2.map ptP),Y (YT x y w),Y (ptP n),z,none]=.ok (.lst (c1.map fun q=>.int (far n q))):=fun z=>
  fR (xs:=c1) (u:=ptP) (v:=fun q=>.int (far n q)) rfl (fun q hq=>by
   have pq:=B1.pb q hq
   rw[iQ];show noErr (dm [Y (ptP q),Y (ptP n)])=_;simp[dm,aq pq.1 hn.1 (by decide),aq pq.2 hn.2 (by decide),far]) (by have:=B1.len;omega)
 have b1:=BU B2 n
 have b2:=wm B1 n
 have m1:=aq (bits_sub (zz B2 hn) (zP B1 hn)) hw (by decide)
 have m2:=aq hx hn.1 (by decide)
 have m3:=aq hy hn.2 (by decide)
 have hm:dD [.lst (c1.map ptP),.lst (c2.map ptP),YT x y w,ptP n]=fin (e8 [YL (c1.map ptP),YL (c2.map ptP),Y (YT x y w),Y (ptP n),none,none]):=by
  unfold dD;rw[vq];rfl
 rw[hm]
 generalize c1.map ptP=C1 at *
 generalize c2.map ptP=C2 at *
 generalize (c1.map fun q=>PV.int (far n q))=F1 at *
 generalize (c2.map fun q=>PV.int (far n q))=F2 at *
 unfold e8
 generalize c6 (itE (ae 1)) (gN 0) dq 1 [3]=E1 at *
 generalize c6 (itE (ae 0)) (gN 0) dm 1 [3]=E2 at *
 simp[k1,k2,b1,b2,m1,m2,m3,cE,Int.add_assoc]
end
def dk(c1 c2:List Pt):List Pt:=(List.range c1.length).map (fun k=>nrm (cA c1 k))++(List.range c2.length).map fun k=>trn (nrm (cA c2 k))
theorem D2{c1 c2:List Pt}{n:Pt}:n∈dk c1 c2↔n∈gu c1 c2:=by
 unfold dk gu
 rw[List.mem_append,List.mem_append]
 refine or_congr ⟨fun h=>?_,fun h=>?_⟩ ⟨fun h=>?_,fun h=>?_⟩
 ·obtain⟨k,hk,rfl⟩:=List.mem_map.mp h
  exact List.mem_map.mpr ⟨_,si (List.mem_range.mp hk),rfl⟩
 ·obtain⟨s,hs,rfl⟩:=List.mem_map.mp h
  obtain⟨k,hk,rfl⟩:=jP hs
  exact List.mem_map.mpr ⟨k,List.mem_range.mpr hk,rfl⟩
 ·obtain⟨k,hk,rfl⟩:=List.mem_map.mp h
  exact List.mem_map.mpr ⟨_,si (List.mem_range.mp hk),rfl⟩
 ·obtain⟨s,hs,rfl⟩:=List.mem_map.mp h
  obtain⟨k,hk,rfl⟩:=jP hs
  exact List.mem_map.mpr ⟨k,List.mem_range.mpr hk,rfl⟩
theorem qd(c1 c2:List Pt):(dk c1 c2).length=c1.length+c2.length:=by unfold dk;simp
theorem lP{c1:List Pt}(x1:PV):∀(ks:List Nat)(acc:List Pt)(z3:Option SV),(∀k∈ks,k<c1.length)→acc.length+ks.length≤1000 →
  ∃y3,cO (gN 3) bx (ks.map fun (k:Nat)=>PV.int (k:Int)) [YL (c1.map ptP),Y x1,some (.own (acc.map ptP)),z3] =
   YN [YL (c1.map ptP),Y x1,some (.own ((acc++ks.map fun k=>nrm (cA c1 k)).map ptP)),y3]
 |[],acc,z3,_,_=>⟨z3,by simp⟩
 |k::ks,acc,z3,h,hl=>by
  have hk:=h k (.head _)
  obtain⟨ha,hb⟩:=jm hk
  generalize hs:cA c1 k=s at ha hb
  have hk':k<(c1.map ptP).length:=by rw[List.length_map];exact hk
  have g1:atR (c1.map ptP) ((k:Int)-1) id=.ok (ptP s.1):=o9 hk' (by rw[List.length_map,List.getElem?_map,ha];rfl)
  have g2:atR (c1.map ptP) (k:Int) id=.ok (ptP s.2):=gm (by rw[List.getElem?_map,hb];rfl)
  have hstep:bx [YL (c1.map ptP),Y x1,some (.own (acc.map ptP)),YI k]=YN [YL (c1.map ptP),Y x1,some (.own ((acc++[nrm s]).map ptP)),YI k]:=by
   generalize c1.map ptP=C at *
   have hlen:(acc.map ptP).length<10000000:=by rw[List.length_map];omega
   rw[bx,lr (i:=2) (p:=ptP (nrm s)) rfl hlen (by
    show _=Res.ok (PV.tup [.int (s.2.2-s.1.2),.int (s.1.1-s.2.1)])
    simp[g1,g2])]
   simp
  obtain⟨y3,he⟩:=lP x1 ks (acc++[nrm s]) (YI k) (fun j hj=>h j (.tail _ hj)) (by simp only[List.length_append,List.length_singleton,List.length_cons,List.length_nil]at *;omega)
  refine⟨y3,?_⟩
  rw[List.map_cons,aX (σ1:=[YL (c1.map ptP),Y x1,some (.own (acc.map ptP)),YI k]) rfl,hstep]
  simp only[ar]
  rw[he,List.map_cons,hs]
  simp
theorem lO{c1:List Pt}(x1:PV):∀(ks:List Nat)(acc:List Pt)(z3:Option SV),(∀k∈ks,k<c1.length)→acc.length+ks.length≤1000 →
  ∃y3,cO (gN 3) bw (ks.map fun (k:Nat)=>PV.int (k:Int)) [Y x1,YL (c1.map ptP),some (.own (acc.map ptP)),z3] =
   YN [Y x1,YL (c1.map ptP),some (.own ((acc++ks.map fun k=>trn (nrm (cA c1 k))).map ptP)),y3]
 |[],acc,z3,_,_=>⟨z3,by simp⟩
 |k::ks,acc,z3,h,hl=>by
  have hk:=h k (.head _)
  obtain⟨ha,hb⟩:=jm hk
  generalize hs:cA c1 k=s at ha hb
  have hk':k<(c1.map ptP).length:=by rw[List.length_map];exact hk
  have g1:atR (c1.map ptP) ((k:Int)-1) id=.ok (ptP s.1):=o9 hk' (by rw[List.length_map,List.getElem?_map,ha];rfl)
  have g2:atR (c1.map ptP) (k:Int) id=.ok (ptP s.2):=gm (by rw[List.getElem?_map,hb];rfl)
  have hstep:bw [Y x1,YL (c1.map ptP),some (.own (acc.map ptP)),YI k]=YN [Y x1,YL (c1.map ptP),some (.own ((acc++[trn (nrm s)]).map ptP)),YI k]:=by
   generalize c1.map ptP=C at *
   have hlen:(acc.map ptP).length<10000000:=by rw[List.length_map];omega
   rw[bw,lr (i:=2) (p:=ptP (trn (nrm s))) rfl hlen (by
    have q1:s.1.2-s.2.2 = -(s.2.2-s.1.2):=by omega
    have q2:s.2.1-s.1.1 = -(s.1.1-s.2.1):=by omega
    show _=Res.ok (PV.tup [.int (-(s.2.2-s.1.2)),.int (-(s.1.1-s.2.1))])
    rw[←q1,←q2]
    simp[g1,g2])]
   simp
  obtain⟨y3,he⟩:=lO x1 ks (acc++[trn (nrm s)]) (YI k) (fun j hj=>h j (.tail _ hj)) (by simp only[List.length_append,List.length_singleton,List.length_cons,List.length_nil]at *;omega)
  refine⟨y3,?_⟩
  rw[List.map_cons,aX (σ1:=[Y x1,YL (c1.map ptP),some (.own (acc.map ptP)),YI k]) rfl,hstep]
  simp only[ar]
  rw[he,List.map_cons,hs]
  simp
theorem rE(F1 F2:DS)(x0 x1:Option SV)(A1 A2:List PV)(y3 v3:Option SV)(f1:F1 [x0,x1,some (.own []),none]=YN [x0,x1,some (.own A1),y3])(f2:F2 [x0,x1,some (.own A1),y3]=YN [x0,x1,some (.own A2),v3]):
  (ao (lq 2 aj) (ao F1 (ao F2 (cV 2 (aJ (ae 2)))))) [x0,x1,none,none]=.ok (.ret (.lst A2)):=by
 rw[bJ,nW]
 simp only[ar,List.set_cons_succ,List.set_cons_zero]
 rw[bJ,f1]
 simp only[ar]
 rw[bJ,f2]
 simp only[ar]
 rw[fK (i:=2) rfl]
 simp
theorem zv{c1 c2:List Pt}(B1:Body c1)(B2:Body c2):aW [.lst (c1.map ptP),.lst (c2.map ptP)]=.ok (.lst ((dk c1 c2).map ptP)):=by
 have l1:=B1.len
 have l2:=B2.len
 obtain⟨y3,e1⟩:=lP (.lst (c2.map ptP)) (List.range c1.length) [] none (fun k hk=>List.mem_range.mp hk) (by simp;omega)
 rw[List.nil_append,List.map_nil]at e1
 obtain⟨v3,e2⟩:=lO (.lst (c1.map ptP)) (List.range c2.length) ((List.range c1.length).map fun k=>nrm (cA c1 k)) y3 (fun k hk=>List.mem_range.mp hk) (by rw[List.length_map,List.length_range,List.length_range];omega)
 have d1:bj 0 [YL (c1.map ptP),YL (c2.map ptP),some (.own []),none]=.ok (.int (((c1.map ptP).length:Nat):Int)):=rfl
 have d2:bj 1 [YL (c1.map ptP),YL (c2.map ptP),some (.own (((List.range c1.length).map fun k=>nrm (cA c1 k)).map ptP)),y3]=.ok (.int (((c2.map ptP).length:Nat):Int)):=rfl
 have f1:=(gF (f:=aD) (gg:=gN 3) (c:=bx) (d:=bj 0) (σ:=[YL (c1.map ptP),YL (c2.map ptP),some (.own []),none]) (p:=.int (((c1.map ptP).length:Nat):Int)) d1 (by rw[cH (by rw[List.length_map];omega),List.length_map,i6])).trans e1
 have f2:=(gF (f:=aD) (gg:=gN 3) (c:=bw) (d:=bj 1) (σ:=[YL (c1.map ptP),YL (c2.map ptP),some (.own (((List.range c1.length).map fun k=>nrm (cA c1 k)).map ptP)),y3]) (p:=.int (((c2.map ptP).length:Nat):Int)) d2 (by rw[cH (by rw[List.length_map];omega),List.length_map,i6])).trans e2
 have hm:aW [.lst (c1.map ptP),.lst (c2.map ptP)]=fin (bO [YL (c1.map ptP),YL (c2.map ptP),none,none]):=by
  unfold aW;rw[nZ];rfl
 rw[hm]
 have:=rE _ _ _ _ _ _ _ _ f1 f2
 unfold bO
 rw[this]
 simp[dk]
theorem aN(F R:DS){σ σ1:PSt}{r:Res Fl}(h1:F σ=YN σ1)(h2:R σ1=r):(ao F R) σ=r:=by
 rw[bJ,h1]
 exact h2
theorem zZ{n1 n2 n:Pt}(h1:0≤cro n1 n)(h2:0≤cro n n2)(h3:0<cro n1 n2){A B:Int}(g1:n1.1*A+n1.2*B≤0)(g2:n2.1*A+n2.2*B≤0):n.1*A+n.2*B≤0:=by
 have e:cro n1 n2*(n.1*A+n.2*B)=cro n n2*(n1.1*A+n1.2*B)+cro n1 n*(n2.1*A+n2.2*B):=by unfold cro;grind
 have s1:=Int.mul_nonpos_of_nonneg_of_nonpos h2 g1
 have s2:=Int.mul_nonpos_of_nonneg_of_nonpos h1 g2
 rcases Int.lt_or_le 0 (n.1*A+n.2*B) with z|z
 ·have:=Int.mul_pos h3 z;omega
 ·exact z
theorem wY{cs:List Pt}(B:Body cs){V:Sp}(hin:∀s∈ai cs,inH (hpA s) V)(n:Pt):n.1*V.1+n.2*V.2.1≤hi cs n*V.2.2:=by
 obtain⟨a,n1,n2,ha,ma,h1,h2,m1,m2,k1,k2,k3⟩:=iH B n
 have ea:hi cs n=far n a:=by
  obtain⟨u,q,hq,e⟩:=bF B.ne n
  have:=u a ha
  have:=ma q hq
  omega
 have top:∀m∈(ai cs).map nrm,(∀q∈cs,far m q≤far m a)→m.1*(V.1-a.1*V.2.2)+m.2*(V.2.1-a.2*V.2.2)≤0:=fun m hm hx=>by
  obtain⟨s,hs,rfl⟩:=List.mem_map.mp hm
  have:=hin s hs
  unfold inH hpA at this
  simp only at this
  have e1:=hx _ (dg B hs).2.1
  have e2:=(dg B hs).1 _ ha
  have e3:far (nrm s) s.1=far (nrm s) a:=by omega
  rw[e3]at this
  have e:(nrm s).1*(V.1-a.1*V.2.2)+(nrm s).2*(V.2.1-a.2*V.2.2)=(nrm s).1*V.1+(nrm s).2*V.2.1-far (nrm s) a*V.2.2:=by unfold far;grind
  omega
 have:=zZ k1 k2 k3 (top n1 h1 m1) (top n2 h2 m2)
 rw[ea]
 have e:n.1*(V.1-a.1*V.2.2)+n.2*(V.2.1-a.2*V.2.2)=n.1*V.1+n.2*V.2.1-far n a*V.2.2:=by unfold far;grind
 omega
theorem lK(f:Pt→Int):∀cs:List Pt,∃k:Int,0≤k∧∀q∈cs,f q≤k
 |[]=>⟨0,by decide,fun q h=>by simp at h⟩
 |c::cs=>by
  obtain⟨k,k0,hk⟩:=lK f cs
  refine⟨k+(f c).natAbs,by omega,fun q hq=>?_⟩
  rcases List.mem_cons.mp hq with rfl|hq
  ·omega
  ·have:=hk q hq;omega
theorem kN{cs:List Pt}(B:Body cs){n t:Pt}{mx:Int}(hmx:∀q∈cs,far n q=hi cs n→far t q≤mx){V:Sp}(hV:0<V.2.2)(hin:∀s∈ai cs,inH (hpA s) V)(hl:n.1*V.1+n.2*V.2.1=hi cs n*V.2.2):t.1*V.1+t.2*V.2.1≤mx*V.2.2:=by
 obtain⟨k,k0,hk⟩:=lK (fun q=>far t q-mx) cs
 have hu:∀q∈cs,far (k*n.1+t.1,k*n.2+t.2) q≤k*hi cs n+mx:=fun q hq=>by
  have e:far (k*n.1+t.1,k*n.2+t.2) q=k*far n q+far t q:=by unfold far;grind
  rw[e]
  have h1:=(bF B.ne n).1 q hq
  have h2:far t q-mx≤k:=hk q hq
  rcases Int.lt_or_eq_of_le h1 with z|z
  ·have:=Int.mul_le_mul_of_nonneg_left (show far n q≤hi cs n-1 by omega) k0
   have e2:k*(hi cs n-1)=k*hi cs n-k:=by grind
   omega
  ·have:=hmx q hq z
   rw[z];omega
 obtain⟨_,q,hq,eq⟩:=bF B.ne (k*n.1+t.1,k*n.2+t.2)
 have hb:hi cs (k*n.1+t.1,k*n.2+t.2)≤k*hi cs n+mx:=by rw[←eq];exact hu q hq
 have h3:(k*n.1+t.1)*V.1+(k*n.2+t.2)*V.2.1≤hi cs (k*n.1+t.1,k*n.2+t.2)*V.2.2:=wY B hin (k*n.1+t.1,k*n.2+t.2)
 have h4:=Int.mul_le_mul_of_nonneg_right hb (Int.le_of_lt hV)
 have e5:(k*n.1+t.1)*V.1+(k*n.2+t.2)*V.2.1=k*(n.1*V.1+n.2*V.2.1)+(t.1*V.1+t.2*V.2.1):=by grind
 have e6:(k*hi cs n+mx)*V.2.2=k*(hi cs n*V.2.2)+mx*V.2.2:=by grind
 rw[e5,hl]at h3
 omega
section
variable {c1 c2:List Pt}(B1:Body c1)(B2:Body c2){x y w:Int}(hw:0<w){V:Sp}(hV:0<V.2.2)(all:∀l∈hps c1 c2 x y w,inH l V)
omit hw in
theorem xZ(all:∀l∈hps c1 c2 x y w,inH l V):∀s∈ai c1,inH (hpA s) V:=fun s hs=>all _ (List.mem_append_left _ (List.mem_map_of_mem hs))
omit hw in
theorem xY(all:∀l∈hps c1 c2 x y w,inH l V):∀s∈ai c2,inH (hpA s) (aG x y w V):=fun s hs=>cW.1.mp (all _ (List.mem_append_right _ (List.mem_map_of_mem hs)))
include B1 B2 hw hV all
theorem jI(n:Pt):cE c1 c2 x y w n≤0∧(cE c1 c2 x y w n=0→n.1*V.1+n.2*V.2.1=hi c1 n*V.2.2∧n.1*(aG x y w V).1+n.2*(aG x y w V).2.1=lo c2 n*(aG x y w V).2.2):=by
 have h1:=wY B1 (xZ all) n
 have h2:=wY B2 (xY all) (-n.1,-n.2)
 rw[oQ B2.ne]at h2
 have h2':lo c2 n*(V.2.2*w)≤n.1*(V.1*w-x*V.2.2)+n.2*(V.2.1*w-y*V.2.2):=by
  unfold aG at h2
  simp only at h2
  have e1:-n.1*(V.1*w-x*V.2.2) + -n.2*(V.2.1*w-y*V.2.2) = -(n.1*(V.1*w-x*V.2.2)+n.2*(V.2.1*w-y*V.2.2)):=by grind
  have e2:-lo c2 n*(V.2.2*w) = -(lo c2 n*(V.2.2*w)):=by grind
  rw[e1,e2]at h2
  omega
 have e:V.2.2*cE c1 c2 x y w n=(lo c2 n*(V.2.2*w)-(n.1*(V.1*w-x*V.2.2)+n.2*(V.2.1*w-y*V.2.2)))+w*(n.1*V.1+n.2*V.2.1-hi c1 n*V.2.2):=by unfold cE;grind
 have s:=Int.mul_nonpos_of_nonneg_of_nonpos (Int.le_of_lt hw) (show n.1*V.1+n.2*V.2.1-hi c1 n*V.2.2≤0 by omega)
 constructor
 ·rcases Int.lt_or_le 0 (cE c1 c2 x y w n) with z|z
  ·have:=Int.mul_pos hV z;omega
  ·exact z
 ·intro z
  rw[z,Int.mul_zero]at e
  have s0:w*(n.1*V.1+n.2*V.2.1-hi c1 n*V.2.2)=0:=by omega
  have s1:=(Int.mul_eq_zero.mp s0).resolve_left (by omega)
  refine⟨by omega,?_⟩
  unfold aG
  simp only
  omega
end
def tt(n:Pt):Pt:=(-n.2,n.1)
theorem basis(n m:Pt)(X Y:Int):(n.1*n.1+n.2*n.2)*(m.1*X+m.2*Y)=(m.1*n.1+m.2*n.2)*(n.1*X+n.2*Y)+(m.1*(tt n).1+m.2*(tt n).2)*((tt n).1*X+(tt n).2*Y):=by unfold tt;simp only;grind
theorem AN{n:Pt}(hn:n≠(0,0)):0<n.1*n.1+n.2*n.2:=sq_pos (by
 rcases Classical.em (n.1=0) with h|h
 ·exact .inr fun z=>hn (Prod.ext h z)
 ·exact .inl h)
section
variable {n p q:Pt}(hn:n≠(0,0)){c:Int}(hp:far n p=c)(hq:far n q=c){V:Sp}(hl:n.1*V.1+n.2*V.2.1=c*V.2.2)
include hn hp hq hl
theorem sk(m:Pt):(far (tt n) q-far (tt n) p)*(m.1*V.1+m.2*V.2.1)=(far (tt n) q*V.2.2-((tt n).1*V.1+(tt n).2*V.2.1))*far m p+(((tt n).1*V.1+(tt n).2*V.2.1)-far (tt n) p*V.2.2)*far m q:=by
 have N:=AN hn
 have b1:=basis n m V.1 V.2.1
 have b2:=basis n m p.1 p.2
 have b3:=basis n m q.1 q.2
 have f:∀a b:Pt,a.1*b.1+a.2*b.2=far a b:=fun a b=>by unfold far;grind
 rw[hl]at b1
 rw[f m p,f n p,f (tt n) p,hp]at b2
 rw[f m q,f n q,f (tt n) q,hq]at b3
 generalize m.1*V.1+m.2*V.2.1=mv at *
 generalize (tt n).1*V.1+(tt n).2*V.2.1=γ at *
 generalize far (tt n) p=α at *
 generalize far (tt n) q=β at *
 generalize far m p=mp at *
 generalize far m q=mq at *
 generalize m.1*n.1+m.2*n.2=mn at *
 generalize m.1*(tt n).1+m.2*(tt n).2=mt at *
 generalize n.1*n.1+n.2*n.2=NN at *
 have:NN*((β-α)*mv)=NN*((β*V.2.2-γ)*mp+(γ-α*V.2.2)*mq):=by
  have a1:NN*((β-α)*mv)=(β-α)*(NN*mv):=by grind
  have a2:NN*((β*V.2.2-γ)*mp+(γ-α*V.2.2)*mq)=(β*V.2.2-γ)*(NN*mp)+(γ-α*V.2.2)*(NN*mq):=by grind
  rw[a1,a2,b1,b2,b3]
  grind
 exact Int.eq_of_mul_eq_mul_left (by omega) this
theorem vi{cs:List Pt}(B:Body cs)(mp:p∈cs)(mq:q∈cs)(hV:0<V.2.2)(h1:far (tt n) p*V.2.2≤(tt n).1*V.1+(tt n).2*V.2.1)(h2:(tt n).1*V.1+(tt n).2*V.2.1≤far (tt n) q*V.2.2):∀s∈ai cs,inH (hpA s) V:=fun s hs=>by
 obtain⟨mx,_,_⟩:=dg B hs
 have f1:=mx p mp
 have f2:=mx q mq
 unfold inH hpA
 simp only
 rcases Int.lt_or_le (far (tt n) p) (far (tt n) q) with k|k
 ·have sv:=sk hn hp hq hl (nrm s)
  generalize (tt n).1*V.1+(tt n).2*V.2.1=γ at *
  have k1:=Int.mul_le_mul_of_nonneg_left f1 (show 0≤far (tt n) q*V.2.2-γ by omega)
  have k2:=Int.mul_le_mul_of_nonneg_left f2 (show 0≤γ-far (tt n) p*V.2.2 by omega)
  have e:(far (tt n) q*V.2.2-γ)*far (nrm s) s.1+(γ-far (tt n) p*V.2.2)*far (nrm s) s.1=(far (tt n) q-far (tt n) p)*(far (nrm s) s.1*V.2.2):=by grind
  exact Int.le_of_mul_le_mul_left (a:=far (tt n) q-far (tt n) p) (by omega) (by omega)
 ·have k':=Int.mul_le_mul_of_nonneg_right k (Int.le_of_lt hV)
  have N:=AN hn
  have b1:=basis n (nrm s) V.1 V.2.1
  have b2:=basis n (nrm s) p.1 p.2
  have f:∀a b:Pt,a.1*b.1+a.2*b.2=far a b:=fun a b=>by unfold far;grind
  rw[hl,show(tt n).1*V.1+(tt n).2*V.2.1=far (tt n) p*V.2.2 by omega]at b1
  rw[f (nrm s) p,f n p,f (tt n) p,hp]at b2
  have:(n.1*n.1+n.2*n.2)*((nrm s).1*V.1+(nrm s).2*V.2.1)=(n.1*n.1+n.2*n.2)*(far (nrm s) p*V.2.2):=by
   have a2:(n.1*n.1+n.2*n.2)*(far (nrm s) p*V.2.2)=((n.1*n.1+n.2*n.2)*far (nrm s) p)*V.2.2:=by grind
   rw[a2,b1,b2];grind
  rw[Int.eq_of_mul_eq_mul_left (by omega) this]
  exact Int.mul_le_mul_of_nonneg_right f1 (Int.le_of_lt hV)
theorem so{cs:List Pt}(B:Body cs)(mp:p∈cs)(mq:q∈cs)(h1:far (tt n) p*V.2.2<(tt n).1*V.1+(tt n).2*V.2.1)(h2:(tt n).1*V.1+(tt n).2*V.2.1<far (tt n) q*V.2.2)(hpq:far (tt n) p<far (tt n) q){s:Pt×Pt}(hs:s∈ai cs)(ho:onH (hpA s) V):(nrm s).1*(tt n).1+(nrm s).2*(tt n).2=0:=by
 obtain⟨mx,_,_⟩:=dg B hs
 have f1:=mx p mp
 have f2:=mx q mq
 unfold onH hpA at ho
 simp only at ho
 have sv:=sk hn hp hq hl (nrm s)
 rw[ho]at sv
 generalize (tt n).1*V.1+(tt n).2*V.2.1=γ at *
 have e:(far (tt n) q-far (tt n) p)*(far (nrm s) s.1*V.2.2)=(far (tt n) q*V.2.2-γ)*far (nrm s) s.1+(γ-far (tt n) p*V.2.2)*far (nrm s) s.1:=by grind
 have k1:=Int.mul_le_mul_of_nonneg_left f1 (show 0≤far (tt n) q*V.2.2-γ by omega)
 have k2:=Int.mul_le_mul_of_nonneg_left f2 (show 0≤γ-far (tt n) p*V.2.2 by omega)
 have e1:(far (tt n) q*V.2.2-γ)*far (nrm s) p=(far (tt n) q*V.2.2-γ)*far (nrm s) s.1:=by omega
 have e2:(γ-far (tt n) p*V.2.2)*far (nrm s) q=(γ-far (tt n) p*V.2.2)*far (nrm s) s.1:=by omega
 have z1:=Int.eq_of_mul_eq_mul_left (by omega:far (tt n) q*V.2.2-γ≠0) e1
 have z2:=Int.eq_of_mul_eq_mul_left (by omega:γ-far (tt n) p*V.2.2≠0) e2
 have b2:=basis n (nrm s) p.1 p.2
 have b3:=basis n (nrm s) q.1 q.2
 have f:∀a b:Pt,a.1*b.1+a.2*b.2=far a b:=fun a b=>by unfold far;grind
 rw[f (nrm s) p,f n p,f (tt n) p,hp,z1]at b2
 rw[f (nrm s) q,f n q,f (tt n) q,hq,z2]at b3
 have:((nrm s).1*(tt n).1+(nrm s).2*(tt n).2)*(far (tt n) q-far (tt n) p)=0:=by grind
 exact(Int.mul_eq_zero.mp this).resolve_right (by omega)
end
structure Face (cs:List Pt) (m t p q:Pt):Prop where
 pm:p∈cs
 qm:q∈cs
 fp:far m p=hi cs m
 fq:far m q=hi cs m
 lo:∀r∈cs,far m r=hi cs m→far t p≤far t r
 hi:∀r∈cs,far m r=hi cs m→far t r≤far t q
def gam(n:Pt)(V:Sp):Int:=(tt n).1*V.1+(tt n).2*V.2.1
theorem BQ{c:Pt}(hc:PB 120 c):Ok 4000 (c.1,c.2,1):=⟨by show(0:Int)<1;decide,by rw[kM];simp,Nat.le_trans hc.1 (by decide),Nat.le_trans hc.2 (by decide),show intBits (1:Int)≤4000 from Nat.le_trans (ck (n:=1) (by decide)) (by decide)⟩
theorem jA(t q:Pt):far (-t.1,-t.2) q = - far t q:=by unfold far;grind
theorem sI{a b w:Int}(hw:0<w)(h:a*w≤b*w):a≤b:=Int.le_of_mul_le_mul_right h hw
theorem kH{a b w:Int}(hw:0<w)(h:a*w<b*w):a<b:=Int.lt_of_mul_lt_mul_right h (Int.le_of_lt hw)
theorem n8(n:Pt)(x y w:Int)(V:Sp):(tt n).1*(aG x y w V).1+(tt n).2*(aG x y w V).2.1=gam n V*w-((tt n).1*x+(tt n).2*y)*V.2.2:=by unfold aG gam;simp only;grind
section
variable {c1 c2:List Pt}(B1:Body c1)(B2:Body c2){x y w:Int}(S:Shf x y w){T:List Sp}(H:Told c1 c2 x y w T){n:Pt}(hn:n≠(0,0))(hg:cE c1 c2 x y w n=0){p1 q1 p2 q2:Pt}(F1:Face c1 n (tt n) p1 q1)(F2:Face c2 (-n.1,-n.2) (tt n) p2 q2)
include B1 B2 S hg F1 F2
theorem xU{V:Sp}(hV:0<V.2.2)(all:∀l∈hps c1 c2 x y w,inH l V):far (tt n) p1*V.2.2≤gam n V∧gam n V≤far (tt n) q1*V.2.2∧(far (tt n) p2*w+((tt n).1*x+(tt n).2*y))*V.2.2≤gam n V*w∧gam n V*w≤(far (tt n) q2*w+((tt n).1*x+(tt n).2*y))*V.2.2:=by
 have wp:=S.pos
 obtain⟨_,eqs⟩:=jI B1 B2 wp hV all n
 obtain⟨e1,e2⟩:=eqs hg
 have hV2:0<(aG x y w V).2.2:=Int.mul_pos hV wp
 have e2':(-n.1)*(aG x y w V).1+(-n.2)*(aG x y w V).2.1=hi c2 (-n.1,-n.2)*(aG x y w V).2.2:=by
  rw[oQ B2.ne]
  have:-lo c2 n*(aG x y w V).2.2 = -(lo c2 n*(aG x y w V).2.2):=by grind
  rw[this,←e2];grind
 have a1:=kN B1 (t:=(-(tt n).1,-(tt n).2)) (mx:=-far (tt n) p1) (fun q hq h=>by rw[jA];have:=F1.lo q hq h;omega) hV (xZ all) e1
 have a2:=kN B1 (t:=tt n) (mx:=far (tt n) q1) (fun q hq h=>F1.hi q hq h) hV (xZ all) e1
 have a3:=kN B2 (n:=(-n.1,-n.2)) (t:=(-(tt n).1,-(tt n).2)) (mx:=-far (tt n) p2) (fun q hq h=>by rw[jA];have:=F2.lo q hq h;omega) hV2 (xY all) e2'
 have a4:=kN B2 (n:=(-n.1,-n.2)) (t:=tt n) (mx:=far (tt n) q2) (fun q hq h=>F2.hi q hq h) hV2 (xY all) e2'
 have rg:=n8 n x y w V
 rw[rg]at a4
 simp only at a1 a3
 have n1:-(tt n).1*V.1 + -(tt n).2*V.2.1 = -gam n V:=by unfold gam;grind
 have n2:-far (tt n) p1*V.2.2 = -(far (tt n) p1*V.2.2):=by grind
 have n3:-(tt n).1*(aG x y w V).1 + -(tt n).2*(aG x y w V).2.1 = -((tt n).1*(aG x y w V).1+(tt n).2*(aG x y w V).2.1):=by grind
 have n4:-far (tt n) p2*(aG x y w V).2.2 = -(far (tt n) p2*w*V.2.2):=by unfold aG;simp only;grind
 have n5:far (tt n) q2*(aG x y w V).2.2=far (tt n) q2*w*V.2.2:=by unfold aG;simp only;grind
 rw[n1,n2]at a1
 rw[n3,n4,rg]at a3
 rw[n5]at a4
 have n6:(far (tt n) p2*w+((tt n).1*x+(tt n).2*y))*V.2.2=far (tt n) p2*w*V.2.2+((tt n).1*x+(tt n).2*y)*V.2.2:=by grind
 have n7:(far (tt n) q2*w+((tt n).1*x+(tt n).2*y))*V.2.2=far (tt n) q2*w*V.2.2+((tt n).1*x+(tt n).2*y)*V.2.2:=by grind
 rw[n6,n7]
 refine⟨by omega,a2,by omega,by omega⟩
include hn H
theorem qH{Z:Int}(z1:far (tt n) p1*w≤Z)(z2:Z≤far (tt n) q1*w)(z3:far (tt n) p2*w+((tt n).1*x+(tt n).2*y)≤Z)(z4:Z≤far (tt n) q2*w+((tt n).1*x+(tt n).2*y))
  (hz:(∃a∈c1,far n a=hi c1 n∧Z=far (tt n) a*w)∨∃b∈c2,far (-n.1,-n.2) b=hi c2 (-n.1,-n.2)∧Z=far (tt n) b*w+((tt n).1*x+(tt n).2*y)):∃P∈T,gam n P*w=Z*P.2.2:=by
 have wp:=S.pos
 have lo2:∀b,far (-n.1,-n.2) b=hi c2 (-n.1,-n.2)→far n b=lo c2 n:=fun b h=>by rw[jA,oQ B2.ne]at h;omega
 have hgg:(lo c2 n-hi c1 n)*w+(x*n.1+y*n.2)=0:=hg
 rcases hz with ⟨a,ha,fa,e⟩|⟨b,hb,fb,e⟩
 ·have o:=BQ (B1.pb a ha)
  have gP:gam n (a.1,a.2,1)=far (tt n) a:=by unfold gam far;simp only;grind
  have hl:n.1*(aG x y w (a.1,a.2,1)).1+n.2*(aG x y w (a.1,a.2,1)).2.1=lo c2 n*(aG x y w (a.1,a.2,1)).2.2:=by
   unfold aG far at *
   simp only
   grind
  have rg:=n8 n x y w (a.1,a.2,1)
  rw[gP]at rg
  simp only[Int.mul_one]at rg
  have r3:(aG x y w (a.1,a.2,1)).2.2=w:=by unfold aG;simp
  have inB:=vi hn (lo2 _ F2.fp) (lo2 _ F2.fq) hl B2 F2.pm F2.qm (by rw[r3];exact wp) (by rw[rg,r3];omega) (by rw[rg,r3];omega)
  exact⟨_,H.has o (ER B1 ha o.pos (by simp) (by simp) inB),by rw[gP,e];simp⟩
 ·obtain⟨V,_,o,v1,v2⟩:=wu (B2.pb b hb) S
  have fb':=lo2 b fb
  have hV:=o.pos
  have gV:gam n V*w=Z*V.2.2:=by
   have:gam n V*w=(tt n).1*(V.1*w)+(tt n).2*(V.2.1*w):=by unfold gam;grind
   rw[this,v1,v2,e]
   unfold far;grind
  have hl:n.1*V.1+n.2*V.2.1=hi c1 n*V.2.2:=by
   have:(n.1*V.1+n.2*V.2.1)*w=(hi c1 n*V.2.2)*w:=by
    have a1:(n.1*V.1+n.2*V.2.1)*w=n.1*(V.1*w)+n.2*(V.2.1*w):=by grind
    rw[a1,v1,v2]
    unfold far at fb'
    grind
   exact Int.eq_of_mul_eq_mul_right (by omega) this
  have k1:=Int.mul_le_mul_of_nonneg_right z1 (Int.le_of_lt hV)
  have k2:=Int.mul_le_mul_of_nonneg_right z2 (Int.le_of_lt hV)
  have inA:=vi hn F1.fp F1.fq hl B1 F1.pm F1.qm hV (sI wp (by
   show far (tt n) p1*V.2.2*w≤gam n V*w
   rw[gV]
   have:far (tt n) p1*V.2.2*w=far (tt n) p1*w*V.2.2:=by grind
   omega)) (sI wp (by
   show gam n V*w≤far (tt n) q1*V.2.2*w
   rw[gV]
   have:far (tt n) q1*V.2.2*w=far (tt n) q1*w*V.2.2:=by grind
   omega))
  exact⟨V,H.has o (EN B2 wp hb hV v1 v2 inA),gV⟩
theorem uU{V:Sp}(hV:V∈T){L Z:Int}(l1:far (tt n) p1*w≤L)(l2:far (tt n) p2*w+((tt n).1*x+(tt n).2*y)≤L)(z1:Z≤far (tt n) q1*w)(z2:Z≤far (tt n) q2*w+((tt n).1*x+(tt n).2*y))(s1:L*V.2.2<gam n V*w)(s2:gam n V*w<Z*V.2.2):False:=by
 have wp:=S.pos
 have vt:=H.vtx V hV
 have vp:=vt.pos
 obtain⟨_,eqs⟩:=jI B1 B2 wp vp vt.all n
 obtain⟨e1,e2⟩:=eqs hg
 have lo2:∀b,far (-n.1,-n.2) b=hi c2 (-n.1,-n.2)→far n b=lo c2 n:=fun b h=>by rw[jA,oQ B2.ne]at h;omega
 have m1:=Int.mul_le_mul_of_nonneg_right l1 (Int.le_of_lt vp)
 have m2:=Int.mul_le_mul_of_nonneg_right l2 (Int.le_of_lt vp)
 have m3:=Int.mul_le_mul_of_nonneg_right z1 (Int.le_of_lt vp)
 have m4:=Int.mul_le_mul_of_nonneg_right z2 (Int.le_of_lt vp)
 have c1':far (tt n) p1*V.2.2<gam n V:=kH wp (by
  have:far (tt n) p1*V.2.2*w=far (tt n) p1*w*V.2.2:=by grind
  omega)
 have c2':gam n V<far (tt n) q1*V.2.2:=kH wp (by
  have:far (tt n) q1*V.2.2*w=far (tt n) q1*w*V.2.2:=by grind
  omega)
 have rg:=n8 n x y w V
 have r3:(aG x y w V).2.2=V.2.2*w:=rfl
 have d1:far (tt n) p2*(aG x y w V).2.2<(tt n).1*(aG x y w V).1+(tt n).2*(aG x y w V).2.1:=by
  rw[rg,r3]
  have:(far (tt n) p2*w+((tt n).1*x+(tt n).2*y))*V.2.2=far (tt n) p2*(V.2.2*w)+((tt n).1*x+(tt n).2*y)*V.2.2:=by grind
  omega
 have d2:(tt n).1*(aG x y w V).1+(tt n).2*(aG x y w V).2.1<far (tt n) q2*(aG x y w V).2.2:=by
  rw[rg,r3]
  have:(far (tt n) q2*w+((tt n).1*x+(tt n).2*y))*V.2.2=far (tt n) q2*(V.2.2*w)+((tt n).1*x+(tt n).2*y)*V.2.2:=by grind
  omega
 have p12:far (tt n) p1<far (tt n) q1:=kH vp (by omega)
 have p34:far (tt n) p2<far (tt n) q2:=kH (w:=(aG x y w V).2.2) (Int.mul_pos vp wp) (by omega)
 have par:∀l∈hps c1 c2 x y w,onH l V→l.1*(tt n).1+l.2.1*(tt n).2=0:=fun l hl ho=>by
  rcases List.mem_append.mp hl with hl|hl
  ·obtain⟨s,hs,rfl⟩:=List.mem_map.mp hl
   exact so hn F1.fp F1.fq e1 B1 F1.pm F1.qm c1' c2' p12 hs ho
  ·obtain⟨s,hs,rfl⟩:=List.mem_map.mp hl
   have:=so hn (lo2 _ F2.fp) (lo2 _ F2.fq) e2 B2 F2.pm F2.qm d1 d2 p34 hs (cW.2.mp ho)
   show w*(nrm s).1*(tt n).1+w*(nrm s).2*(tt n).2=0
   have e:w*(nrm s).1*(tt n).1+w*(nrm s).2*(tt n).2=w*((nrm s).1*(tt n).1+(nrm s).2*(tt n).2):=by grind
   rw[e,this,Int.mul_zero]
 obtain⟨l,hl,m,hm,hlm,ol,om⟩:=vt.two
 have z:=nD hlm (par l hl ol) (par m hm om)
 unfold tt at z
 have z':=(Prod.mk.injEq ..).mp z
 exact hn (Prod.ext z'.2 (by show n.2=0;omega))
theorem uV{U V:Sp}(hU:U∈T)(hV:V∈T)(h:gam n U*V.2.2=gam n V*U.2.2):U=V:=by
 have wp:=S.pos
 have vu:=H.vtx U hU
 have vv:=H.vtx V hV
 obtain⟨_,eu⟩:=jI B1 B2 wp vu.pos vu.all n
 obtain⟨_,ev⟩:=jI B1 B2 wp vv.pos vv.all n
 have e1:=(eu hg).1
 have e2:=(ev hg).1
 refine oy (H.ok U hU) (H.ok V hV) ?_
 refine nD (l:=(n.1,n.2,0)) (m:=((tt n).1,(tt n).2,0)) ?_ ?_ ?_
 ·have:=AN hn
  unfold tt
  simp only
  have e:n.1*n.1-n.2 * -n.2=n.1*n.1+n.2*n.2:=by grind
  omega
 ·show n.1*(V.1*U.2.2-U.1*V.2.2)+n.2*(V.2.1*U.2.2-U.2.1*V.2.2)=0
  have e:n.1*(V.1*U.2.2-U.1*V.2.2)+n.2*(V.2.1*U.2.2-U.2.1*V.2.2)=(n.1*V.1+n.2*V.2.1)*U.2.2-(n.1*U.1+n.2*U.2.1)*V.2.2:=by grind
  rw[e,e1,e2];grind
 ·show(tt n).1*(V.1*U.2.2-U.1*V.2.2)+(tt n).2*(V.2.1*U.2.2-U.2.1*V.2.2)=0
  have e:(tt n).1*(V.1*U.2.2-U.1*V.2.2)+(tt n).2*(V.2.1*U.2.2-U.2.1*V.2.2)=gam n V*U.2.2-gam n U*V.2.2:=by unfold gam;grind
  rw[e,h];omega
end
theorem ve{T:List Sp}(nd:T.Nodup){P Q:Sp}(hP:P∈T)(hQ:Q∈T)(all:∀V∈T,V=P∨V=Q):(P=Q∧T=[P])∨(P≠Q∧(T=[P,Q]∨T=[Q,P])):=by
 match T,nd,hP,hQ,all with
 |[a],_,hP,hQ,_=>
  have e1:=List.mem_singleton.mp hP
  have e2:=List.mem_singleton.mp hQ
  exact .inl ⟨by rw[e1,e2],by rw[e1]⟩
 |[a,b],nd,hP,hQ,all=>
  simp only[List.nodup_cons,List.mem_singleton,List.not_mem_nil,not_false_eq_true,List.nodup_nil,and_true]at nd
  rcases all a (.head _) with ha|ha
  ·rcases all b (.tail _ (.head _)) with hb|hb
   ·exact absurd (ha.trans hb.symm) nd
   ·exact .inr ⟨fun z=>nd (by rw[ha,hb,z]),.inl (by rw[ha,hb])⟩
  ·rcases all b (.tail _ (.head _)) with hb|hb
   ·exact .inr ⟨fun z=>nd (by rw[ha,hb,z]),.inr (by rw[ha,hb])⟩
   ·exact absurd (ha.trans hb.symm) nd
 |a::b::c::r,nd,hP,hQ,all=>
  exfalso
  simp only[List.nodup_cons,List.mem_cons,not_or]at nd
  obtain⟨⟨n1,n2,_⟩,⟨n3,_⟩,_⟩:=nd
  rcases all a (.head _) with ha|ha<;>rcases all b (.tail _ (.head _)) with hb|hb<;>rcases all c (.tail _ (.tail _ (.head _))) with hc|hc<;>first|exact n1 (ha.trans hb.symm)|exact n2 (ha.trans hc.symm)|exact n3 (hb.trans hc.symm)
theorem Told.nodup{c1 c2:List Pt}{x y w:Int}{T:List Sp}(H:Told c1 c2 x y w T):T.Nodup:=H.srt.imp fun {A B} h=>fun z=>by rw[z]at h;have:=tG h;rw[h]at this;cases this
theorem xc{c1 c2:List Pt}(B1:Body c1)(B2:Body c2){x y w:Int}(hw:0<w):∀l∈hps c1 c2 x y w,(l.1,l.2.1)≠((0,0):Pt):=fun l hl z=>by
 have z':=(Prod.mk.injEq ..).mp z
 rcases List.mem_append.mp hl with hl|hl
 ·obtain⟨s,hs,rfl⟩:=List.mem_map.mp hl
  exact kE B1 hs (Prod.ext z'.1 z'.2)
 ·obtain⟨s,hs,rfl⟩:=List.mem_map.mp hl
  have e1:w*(nrm s).1=0:=z'.1
  have e2:w*(nrm s).2=0:=z'.2
  exact kE B2 hs (Prod.ext ((Int.mul_eq_zero.mp e1).resolve_left (by omega)) ((Int.mul_eq_zero.mp e2).resolve_left (by omega)))
theorem qy{A B V U:Sp}(l:pv V U):cro (dif A B) (dif A U)*V.2.2=cro (dif A B) (dif A V)*U.2.2:=by
 obtain⟨l1,l2⟩:=l
 have a1:(U.1*A.2.2-A.1*U.2.2)*V.2.2=(V.1*A.2.2-A.1*V.2.2)*U.2.2:=by grind
 have a2:(U.2.1*A.2.2-A.2.1*U.2.2)*V.2.2=(V.2.1*A.2.2-A.2.1*V.2.2)*U.2.2:=by grind
 show((dif A B).1*(U.2.1*A.2.2-A.2.1*U.2.2)-(dif A B).2*(U.1*A.2.2-A.1*U.2.2))*V.2.2=((dif A B).1*(V.2.1*A.2.2-A.2.1*V.2.2)-(dif A B).2*(V.1*A.2.2-A.1*V.2.2))*U.2.2
 have e1:((dif A B).1*(U.2.1*A.2.2-A.2.1*U.2.2)-(dif A B).2*(U.1*A.2.2-A.1*U.2.2))*V.2.2=(dif A B).1*((U.2.1*A.2.2-A.2.1*U.2.2)*V.2.2)-(dif A B).2*((U.1*A.2.2-A.1*U.2.2)*V.2.2):=by grind
 rw[e1,a1,a2];grind
section
variable {c1 c2:List Pt}(B1:Body c1)(B2:Body c2){x y w:Int}(S:Shf x y w){T:List Sp}(H:Told c1 c2 x y w T)
include B1 B2 S H
theorem yq{A B:Sp}(hA:A∈T)(hB:B∈T)(hd:dif A B≠(0,0))(ho:(∀V∈T,¬0<cro (dif A B) (dif A V))∨∀V∈T,¬cro (dif A B) (dif A V)<0):∃l∈hps c1 c2 x y w,onH l A∧onH l B:=by
 refine Classical.byContradiction fun hno=>?_
 have vA:=H.vtx A hA
 have vB:=H.vtx B hB
 have a0:=vA.pos
 have b0:=vB.pos
 have W0:0<2*(A.2.2*B.2.2):=by have:=Int.mul_pos a0 b0;omega
 have strict:∀l∈hps c1 c2 x y w,l.1*(A.1*B.2.2+B.1*A.2.2)+l.2.1*(A.2.1*B.2.2+B.2.1*A.2.2)<l.2.2*(2*(A.2.2*B.2.2)):=fun l hl=>by
  have iA:=vA.all l hl
  have iB:=vB.all l hl
  unfold inH at iA iB
  have e1:l.1*(A.1*B.2.2+B.1*A.2.2)+l.2.1*(A.2.1*B.2.2+B.2.1*A.2.2)=(l.1*A.1+l.2.1*A.2.1)*B.2.2+(l.1*B.1+l.2.1*B.2.1)*A.2.2:=by grind
  have e2:l.2.2*(2*(A.2.2*B.2.2))=(l.2.2*A.2.2)*B.2.2+(l.2.2*B.2.2)*A.2.2:=by grind
  rw[e1,e2]
  have k1:=Int.mul_le_mul_of_nonneg_right iA (Int.le_of_lt b0)
  have k2:=Int.mul_le_mul_of_nonneg_right iB (Int.le_of_lt a0)
  rcases Int.lt_or_eq_of_le iA with z|z
  ·have:=Int.mul_lt_mul_of_pos_right z b0;omega
  ·rcases Int.lt_or_eq_of_le iB with z' | z'
   ·have:=Int.mul_lt_mul_of_pos_right z' a0;omega
   ·exact absurd ⟨l,hl,z,z'⟩ hno
 have key:∀u:Pt,u≠(0,0)→u.1*(dif A B).1+u.2*(dif A B).2=0→∃U∈T,∃V:Sp,pv V U∧0<V.2.2∧(u.1*A.1+u.2*A.2.1)*V.2.2<(u.1*V.1+u.2*V.2.1)*A.2.2:=fun u hu hp=>by
  obtain⟨p,q,r,r0,all,two,lt⟩:=va (held B1 c2 x y w) (xc B1 B2 S.pos) W0 strict hu
  obtain⟨U,hU,lk⟩:=H.all (p,q,r) ⟨r0,all,two⟩
  refine⟨U,hU,(p,q,r),lk,r0,?_⟩
  have e:(u.1*(A.1*B.2.2+B.1*A.2.2)+u.2*(A.2.1*B.2.2+B.2.1*A.2.2))=2*B.2.2*(u.1*A.1+u.2*A.2.1):=by
   unfold dif at hp
   simp only at hp
   grind
  rw[e]at lt
  have e2:(u.1*p+u.2*q)*(2*(A.2.2*B.2.2))=2*B.2.2*((u.1*p+u.2*q)*A.2.2):=by grind
  have e3:2*B.2.2*(u.1*A.1+u.2*A.2.1)*r=2*B.2.2*((u.1*A.1+u.2*A.2.1)*r):=by grind
  rw[e2,e3]at lt
  exact Int.lt_of_mul_lt_mul_left lt (by omega)
 rcases ho with ho|ho
 ·obtain⟨U,hU,V,lk,V0,lt⟩:=key (-(dif A B).2,(dif A B).1) (fun z=>hd (by have z':=(Prod.mk.injEq ..).mp z;exact Prod.ext z'.2 (by show(dif A B).2=0;omega))) (by simp only;grind)
  have e:cro (dif A B) (dif A V)=(-(dif A B).2*V.1+(dif A B).1*V.2.1)*A.2.2-(-(dif A B).2*A.1+(dif A B).1*A.2.1)*V.2.2:=by
   show(dif A B).1*(V.2.1*A.2.2-A.2.1*V.2.2)-(dif A B).2*(V.1*A.2.2-A.1*V.2.2)=_
   grind
  have pV:0<cro (dif A B) (dif A V):=by simp only at lt;omega
  have:=qy (A:=A) (B:=B) lk
  have pm:=Int.mul_pos pV (H.vtx U hU).pos
  refine ho U hU (Int.lt_of_mul_lt_mul_right (a:=V.2.2) (by omega) (Int.le_of_lt V0))
 ·obtain⟨U,hU,V,lk,V0,lt⟩:=key ((dif A B).2,-(dif A B).1) (fun z=>hd (by have z':=(Prod.mk.injEq ..).mp z;exact Prod.ext (by show(dif A B).1=0;omega) z'.1)) (by simp only;grind)
  have e:cro (dif A B) (dif A V)=((dif A B).2*A.1 + -(dif A B).1*A.2.1)*V.2.2-((dif A B).2*V.1 + -(dif A B).1*V.2.1)*A.2.2:=by
   show(dif A B).1*(V.2.1*A.2.2-A.2.1*V.2.2)-(dif A B).2*(V.1*A.2.2-A.1*V.2.2)=_
   grind
  have pV:cro (dif A B) (dif A V)<0:=by simp only at lt;omega
  have:=qy (A:=A) (B:=B) lk
  have pm:=Int.mul_neg_of_neg_of_pos pV (H.vtx U hU).pos
  refine ho U hU (Int.lt_of_mul_lt_mul_right (a:=V.2.2) (by omega) (Int.le_of_lt V0))
end
theorem Aq(s:Pt×Pt)(V:Sp):onH (hpA s) V↔onH (hpB 0 0 1 s) V:=by
 unfold onH hpA hpB
 simp only
 constructor<;>intro h<;>grind
structure Bt (V:Sp):Prop where
 a:intBits V.1≤1200
 b:intBits V.2.1≤1200
 c:intBits V.2.2≤1200
theorem Ok.bt{V:Sp}(h:Ok 1200 V):Bt V:=⟨h.a,h.b,h.c⟩
theorem oD{A B C:Sp}(hA:Bt A)(hB:Bt B)(hC:Bt C):bq [tP A,tP B,tP C]=.ok (.int (cro (dif A B) (dif A C))):=by
 have k1:=aq hB.a hA.c (by decide)
 have k2:=aq hA.a hB.c (by decide)
 have k3:=aq hB.b hA.c (by decide)
 have k4:=aq hA.b hB.c (by decide)
 have k5:=aq hC.a hA.c (by decide)
 have k6:=aq hA.a hC.c (by decide)
 have k7:=aq hC.b hA.c (by decide)
 have k8:=aq hA.b hC.c (by decide)
 have k9:=aq (bits_sub (bits_mul hB.a hA.c) (bits_mul hA.a hB.c)) (bits_sub (bits_mul hC.b hA.c) (bits_mul hA.b hC.c)) (by decide)
 have k10:=aq (bits_sub (bits_mul hB.b hA.c) (bits_mul hA.b hB.c)) (bits_sub (bits_mul hC.a hA.c) (bits_mul hA.a hC.c)) (by decide)
 unfold bq cro dif;rw[mI]
 unfold tP
 simp[fx,k1,k2,k3,k4,k5,k6,k7,k8,k9,k10]
def mv(x y w:Int)(c:Pt):Sp:=(c.1*w+x,c.2*w+y,w)
theorem tE{s:Pt×Pt}{x y w:Int}{V:Sp}(h:onH (hpB x y w s) V):cro (dif (mv x y w s.1) (mv x y w s.2)) (dif (mv x y w s.1) V)=0:=by
 unfold onH hpB at h
 simp only at h
 have e:cro (dif (mv x y w s.1) (mv x y w s.2)) (dif (mv x y w s.1) V)=w*(w*((w*far (nrm s) s.1+(x*(nrm s).1+y*(nrm s).2))*V.2.2-(w*(nrm s).1*V.1+w*(nrm s).2*V.2.1))):=by unfold cro dif mv far nrm;simp only;grind
 rw[e,h,Int.sub_self,Int.mul_zero,Int.mul_zero]
theorem sV{gg:DG}{c:DS}(I:PSt→Prop)(P bad:PV→Prop)(r:PV)(h:∀p σ,P p→I σ→∃σ1,gg p σ=.ok σ1∧((¬bad p∧∃σ',c σ1=YN σ'∧I σ')∨(c σ1=.ok (.ret r)))):
  ∀(ps:List PV),(∀p∈ps,P p)→∀σ,I σ→((∀p∈ps,¬bad p)∧∃σ',cO gg c ps σ=YN σ'∧I σ')∨cO gg c ps σ=.ok (.ret r)
 |[],_,σ,i=>.inl ⟨fun p h=>by simp at h,σ,rfl,i⟩
 |p::ps,hp,σ,i=>by
  obtain⟨σ1,h1,h2⟩:=h p σ (hp p List.mem_cons_self) i
  rw[aX h1]
  rcases h2 with ⟨nb,σ2,h2,i2⟩|h2
  ·rw[h2]
   rcases sV I P bad r h ps (fun q hq=>hp q (List.mem_cons_of_mem _ hq)) σ2 i2 with ⟨a1,σ3,a2,a3⟩|a2
   ·refine .inl ⟨fun q hq=>?_,σ3,a2,a3⟩
    rcases List.mem_cons.mp hq with rfl|hq
    ·exact nb
    ·exact a1 q hq
   ·exact .inr a2
  ·rw[h2]
   exact .inr rfl
theorem sF{x y w:Int}(S:Shf x y w){c:Pt}(hc:PB 120 c):Bt (mv x y w c):=
 ⟨Nat.le_trans (bits_add (bits_mul hc.1 S.wb) S.xb) (by decide),Nat.le_trans (bits_add (bits_mul hc.2 S.wb) S.yb) (by decide),Nat.le_trans S.wb (by decide)⟩
theorem tQ(MB:List PV→Res PV){C:List PV}{A B:PV}{x y w:Int}{k:Int}{s:Pt×Pt}{ca cb:Int}(z6 z7:Option SV)
  (g1:atR C (k-1) id=.ok (ptP s.1)) (g2:atR C k id=.ok (ptP s.2))
  (o1:ay (.int s.1.1) (.int w)=.ok (.int (s.1.1*w))) (o2:ay (.int s.1.2) (.int w)=.ok (.int (s.1.2*w))) (o3:ay (.int s.2.1) (.int w)=.ok (.int (s.2.1*w))) (o4:ay (.int s.2.2) (.int w)=.ok (.int (s.2.2*w)))
  (h1:MB [tP (mv x y w s.1),tP (mv x y w s.2),A]=.ok (.int ca)) (h2:MB [tP (mv x y w s.1),tP (mv x y w s.2),B]=.ok (.int cb)):
  (ao (av 6 (eA cN (aa (e2 aS (e2 ay (e2 pIx (ah 2 (e2 a7 (ae 5) (eC (.int 1)))) (eC (.int 0))) (ae 4)) (ah 3 (eC (.int 0)))) (aa (e2 aS (e2 ay (e2 pIx (ah 2 (e2 a7 (ae 5) (eC (.int 1)))) (eC (.int 1))) (ae 4)) (ah 3 (eC (.int 1)))) (aa (ae 4) aj)))))
  (ao (av 7 (eA cN (aa (e2 aS (e2 ay (e2 pIx (ah 2 (ae 5)) (eC (.int 0))) (ae 4)) (ah 3 (eC (.int 0)))) (aa (e2 aS (e2 ay (e2 pIx (ah 2 (ae 5)) (eC (.int 1))) (ae 4)) (ah 3 (eC (.int 1)))) (aa (ae 4) aj)))))
  (sIf (G.nM (tV (e2 pEq (eA (fun ps=>noErr (MB ps)) (aa (ae 6) (aa (ae 7) (aa (ae 0) aj)))) (eC (.int 0)))) (tV (e2 pEq (eA (fun ps=>noErr (MB ps)) (aa (ae 6) (aa (ae 7) (aa (ae 1) aj)))) (eC (.int 0))))) (aJ (eC (.bl true))) aQ)))
   [Y A,Y B,YL C,Y (YT x y w),YI w,YI k,z6,z7] =
  .ok (if ca=0∧cb=0 then .ret (.bl true) else .next [Y A,Y B,YL C,Y (YT x y w),YI w,YI k,Y (tP (mv x y w s.1)),Y (tP (mv x y w s.2))]):=by
 unfold tP mv at *
 unfold ptP at g1 g2
 by_cases e1:ca=0
 ·by_cases e2:cb=0
  ·simp[g1,g2,o1,o2,o3,o4,h1,h2,e1,e2]
  ·simp[g1,g2,o1,o2,o3,o4,h1,h2,e1,e2]
 ·simp[g1,g2,o1,o2,o3,o4,h1,h2,e1]
theorem nh{cs:List Pt}(Bd:Body cs){x y w:Int}(S:Shf x y w){A B:Sp}(hA:Bt A)(hB:Bt B):∃b:Bool,aV [tP A,tP B,.lst (cs.map ptP),YT x y w]=.ok (.bl b)∧((∃s∈ai cs,onH (hpB x y w s) A∧onH (hpB x y w s) B)→b=true):=by
 have hm:aV [tP A,tP B,.lst (cs.map ptP),YT x y w]=fin (cL [Y (tP A),Y (tP B),YL (cs.map ptP),Y (YT x y w),none,none,none,none]):=by
  unfold aV;rw[vq];rfl
 have hs:∀p σ,(∃k:Nat,k<cs.length∧p=.int (k:Int))→(∃z5 z6 z7,σ=[Y (tP A),Y (tP B),YL (cs.map ptP),Y (YT x y w),YI w,z5,z6,z7]) →
   ∃σ1,gN 5 p σ=.ok σ1∧((¬(∃k:Nat,k<cs.length∧p=.int (k:Int)∧onH (hpB x y w (cA cs k)) A∧onH (hpB x y w (cA cs k)) B)∧∃σ',aU σ1=YN σ'∧(∃z5 z6 z7,σ'=[Y (tP A),Y (tP B),YL (cs.map ptP),Y (YT x y w),YI w,z5,z6,z7]))∨aU σ1=.ok (.ret (.bl true))):=by
  rintro p σ ⟨k,hk,rfl⟩ ⟨z5,z6,z7,rfl⟩
  refine⟨_,rfl,?_⟩
  obtain⟨ha,hb⟩:=jm hk
  have pa:=Bd.pb _ (List.mem_of_getElem? ha)
  have pb:=Bd.pb _ (List.mem_of_getElem? hb)
  have key:=tQ bq (C:=cs.map ptP) (A:=tP A) (B:=tP B) (x:=x) (y:=y) (w:=w) (k:=(k:Int)) (s:=cA cs k) z6 z7
   (o9 (by rw[List.length_map];exact hk) (by rw[List.length_map,List.getElem?_map,ha];rfl)) (gm (by rw[List.getElem?_map,hb];rfl))
   (aq pa.1 S.wb (by decide)) (aq pa.2 S.wb (by decide)) (aq pb.1 S.wb (by decide)) (aq pb.2 S.wb (by decide))
   (oD (sF S pa) (sF S pb) hA) (oD (sF S pa) (sF S pb) hB)
  have key':=id key
  split at key'
  ·exact .inr key'
  ·rename_i hno
   refine .inl ⟨?_,_,key',_,_,_,rfl⟩
   rintro⟨j,hj,e,o1,o2⟩
   have:k=j:=by
    have:=PV.int.inj e
    omega
   subst this
   exact hno ⟨tE o1,tE o2⟩
 have fr:=sV (gg:=gN 5) (c:=aU) _ _ _ _ hs ((List.range cs.length).map fun (k:Nat)=>PV.int (k:Int)) (fun p hp=>by
  obtain⟨k,hk,rfl⟩:=List.mem_map.mp hp
  exact⟨k,List.mem_range.mp hk,rfl⟩) _ ⟨none,none,none,rfl⟩
 have d1:bj 2 [Y (tP A),Y (tP B),YL (cs.map ptP),Y (YT x y w),YI w,none,none,none]=.ok (.int (((cs.map ptP).length:Nat):Int)):=rfl
 have l1:=Bd.len
 have f1:=(gF (f:=aD) (gg:=gN 5) (c:=aU) (d:=bj 2) (σ:=[Y (tP A),Y (tP B),YL (cs.map ptP),Y (YT x y w),YI w,none,none,none]) (p:=.int (((cs.map ptP).length:Nat):Int)) d1 (by rw[cH (by rw[List.length_map];omega),List.length_map,i6]))
 have t0:(av 4 (ah 3 (eC (.int 2)))) [Y (tP A),Y (tP B),YL (cs.map ptP),Y (YT x y w),none,none,none,none]=YN [Y (tP A),Y (tP B),YL (cs.map ptP),Y (YT x y w),YI w,none,none,none]:=by
  generalize cs.map ptP=C
  simp
 rcases fr with ⟨nb,σ',e,z5,z6,z7,rfl⟩|e
 ·refine⟨false,?_,?_⟩
  ·rw[hm]
   have:=aN _ (ao (dZ (itR aD (aa (bj 2) aj)) (gN 5) aU) (aJ (eC (.bl false)))) t0 (aN _ (aJ (eC (.bl false))) (f1.trans e) rfl)
   exact congrArg fin this
  ·rintro⟨s,hs',o1,o2⟩
   obtain⟨k,hk,rfl⟩:=jP hs'
   exact absurd ⟨k,hk,rfl,o1,o2⟩ (nb _ (List.mem_map.mpr ⟨k,List.mem_range.mpr hk,rfl⟩))
 ·refine⟨true,?_,fun _=>rfl⟩
  rw[hm]
  have t1:(ao (dZ (itR aD (aa (bj 2) aj)) (gN 5) aU) (aJ (eC (.bl false)))) [Y (tP A),Y (tP B),YL (cs.map ptP),Y (YT x y w),YI w,none,none,none]=.ok (.ret (.bl true)):=by
   rw[bJ,f1,e];rfl
  exact congrArg fin (aN _ _ t0 t1)
theorem rm(MB:List PV→Res PV){x0 A B V:PV}{l r c:Int}(z6:Option SV)(h:MB [A,B,V]=.ok (.int c)):
  (ao (av 6 (eA (fun ps=>noErr (MB ps)) (aa (ae 1) (aa (ae 2) (aa (ae 5) aj)))))
  (ao (av 3 (e2 aS (ae 3) (eA ke (aa (e2 (cy fun i j=>decide (j<i)) (ae 6) (eC (.int 0))) aj))))
  (av 4 (e2 aS (ae 4) (eA ke (aa (e2 (cy fun i j=>decide (i<j)) (ae 6) (eC (.int 0))) aj)))))) [Y x0,Y A,Y B,YI l,YI r,Y V,z6] =
  YN [Y x0,Y A,Y B,YI (l+if 0<c then 1 else 0),YI (r+if c<0 then 1 else 0),Y V,YI c]:=by
 simp[h]
theorem lF{A B:Sp}(hA:Bt A)(hB:Bt B)(x0:PV):∀(Vs:List Sp)(l r:Int)(z5 z6:Option SV),(∀V∈Vs,Bt V)→∃l' r' y5 y6,cO (gN 5) cG (Vs.map tP) [Y x0,Y (tP A),Y (tP B),YI l,YI r,z5,z6]=YN [Y x0,Y (tP A),Y (tP B),YI l',YI r',y5,y6]∧l≤l'∧r≤r'∧(l'=l→∀V∈Vs,¬0<cro (dif A B) (dif A V))∧(r'=r→∀V∈Vs,¬cro (dif A B) (dif A V)<0)
 |[],l,r,z5,z6,_=>⟨l,r,z5,z6,rfl,Int.le_refl _,Int.le_refl _,fun _ V h=>by simp at h,fun _ V h=>by simp at h⟩
 |V::Vs,l,r,z5,z6,hv=>by
  have st:=(kc _).trans (rm bq (x0:=x0) (l:=l) (r:=r) z6 (oD hA hB (hv V (.head _))))
  obtain⟨l',r',y5,y6,e,le1,le2,p1,p2⟩:=lF hA hB x0 Vs _ _ _ _ (fun U hU=>hv U (.tail _ hU))
  refine⟨l',r',y5,y6,?_,?_,?_,?_,?_⟩
  ·rw[List.map_cons,aX (σ1:=[Y x0,Y (tP A),Y (tP B),YI l,YI r,Y (tP V),z6]) rfl,st]
   exact e
  ·split at le1<;>omega
  ·split at le2<;>omega
  ·intro z U hU
   split at le1
   ·omega
   ·rename_i hn
    rcases List.mem_cons.mp hU with rfl|hU
    ·exact hn
    ·exact p1 (by rw[if_neg hn];omega) U hU
  ·intro z U hU
   split at le2
   ·omega
   ·rename_i hn
    rcases List.mem_cons.mp hU with rfl|hU
    ·exact hn
    ·exact p2 (by rw[if_neg hn];omega) U hU
theorem zu{A B:Sp}(hA:Bt A)(hB:Bt B){T:List Sp}(hT:∀V∈T,Bt V):∃b:Bool,cq [.lst (T.map tP),tP A,tP B]=.ok (.bl b)∧(b=true→(∀V∈T,¬0<cro (dif A B) (dif A V))∨∀V∈T,¬cro (dif A B) (dif A V)<0):=by
 obtain⟨l,r,y5,y6,e,_,_,p1,p2⟩:=lF hA hB (.lst (T.map tP)) T 0 0 none none hT
 have hm:cq [.lst (T.map tP),tP A,tP B]=fin (d8 [YL (T.map tP),Y (tP A),Y (tP B),none,none,none,none]):=by
  unfold cq;rw[mI];rfl
 refine⟨decide (l=0)||decide (r=0),?_,fun h=>?_⟩
 ·rw[hm]
  generalize tP A=a at *
  generalize tP B=b at *
  generalize T.map tP=L at *
  have t1:(dZ (itE (ae 0)) (gN 5) cG) [YL L,Y a,Y b,YI 0,YI 0,none,none]=YN [YL L,Y a,Y b,YI l,YI r,y5,y6]:=by
   rw[gE];exact e
  have t2:(aJ (eOr (e2 pEq (ae 3) (eC (.int 0))) (e2 pEq (ae 4) (eC (.int 0))))) [YL L,Y a,Y b,YI l,YI r,y5,y6]=.ok (.ret (.bl (decide (l=0)||decide (r=0)))):=by
   by_cases h1:l=0
   ·simp[h1]
   ·simp[h1]
  exact congrArg fin (aN (av 3 (eC (.int 0))) (ao (av 4 (eC (.int 0))) (ao (dZ (itE (ae 0)) (gN 5) cG) (aJ (eOr (e2 pEq (ae 3) (eC (.int 0))) (e2 pEq (ae 4) (eC (.int 0))))))) (σ1:=[YL L,Y a,Y b,YI 0,none,none,none]) rfl (aN _ _ (σ1:=[YL L,Y a,Y b,YI 0,YI 0,none,none]) rfl (aN _ _ t1 t2)))
 ·simp at h
  rcases h with h|h
  ·exact .inl (p1 h)
  ·exact .inr (p2 h)
theorem pT(MO MS:List PV→Res PV){L:List PV}{C1 C2 A B sh:PV}{k i:Int}{b b1 b2:Bool}(gi:atR L i id=.ok A)(gk:atR L k id=.ok B)(ho:MO [.lst L,A,B]=.ok (.bl b))(h1:MS [A,B,C1,YT 0 0 1]=.ok (.bl b1))(h2:MS [A,B,C2,sh]=.ok (.bl b2))(hb:b=true→b1=true∨b2=true):
  (sIf (tV (eA (fun ps=>noErr (MO ps)) (aa (ae 0) (aa (ah 0 (ae 5)) (aa (ah 0 (ae 4)) aj))))) (sIf (G.eS (tV (eA (fun ps=>noErr (MS ps)) (aa (ah 0 (ae 5)) (aa (ah 0 (ae 4)) (aa (ae 1) (aa (eA cN (aa (eC (.int 0)) (aa (eC (.int 0)) (aa (eC (.int 1)) aj)))) aj))))))) (sIf (G.eS (tV (eA (fun ps=>noErr (MS ps)) (aa (ah 0 (ae 5)) (aa (ah 0 (ae 4)) (aa (ae 2) (aa (ae 3) aj))))))) (aJ (eC (.bl false))) aQ) aQ) aQ)
   [YL L,Y C1,Y C2,Y sh,YI k,YI i]=YN [YL L,Y C1,Y C2,Y sh,YI k,YI i]:=by
 cases b with
 |false=>simp[gi,gk,ho]
 |true=>
  cases b1 with
  |true=>simp[gi,gk,ho,h1]
  |false=>
   have e2:b2=true:=by simpa using hb rfl
   subst e2
   simp[gi,gk,ho,h1,h2]
theorem wt{c1 c2:List Pt}(B1:Body c1)(B2:Body c2){x y w:Int}(S:Shf x y w){T:List Sp}(H:Told c1 c2 x y w T)(h3:3≤T.length):aF [.lst (T.map tP),.lst (c1.map ptP),.lst (c2.map ptP),YT x y w]=.ok (.bl true):=by
 have hm:aF [.lst (T.map tP),.lst (c1.map ptP),.lst (c2.map ptP),YT x y w]=fin (bV [YL (T.map tP),YL (c1.map ptP),YL (c2.map ptP),Y (YT x y w),none,none]):=by
  unfold aF;rw[vq];rfl
 have hl:=H.len
 have bt:∀V∈T,Bt V:=fun V hV=>(H.ok V hV).bt
 have one:∀(k i:Nat),i<k→k<T.length→bG [YL (T.map tP),YL (c1.map ptP),YL (c2.map ptP),Y (YT x y w),YI k,YI i]=YN [YL (T.map tP),YL (c1.map ptP),YL (c2.map ptP),Y (YT x y w),YI k,YI i]:=fun k i hik hk=>by
  have hi:i<T.length:=by omega
  have mA:=List.getElem_mem hi
  have mB:=List.getElem_mem hk
  have hd:=CN (List.pairwise_iff_getElem.mp H.srt i k hi hk hik)
  have gi:atR (T.map tP) (i:Int) id=.ok (tP T[i]):=gm (by rw[List.getElem?_map,List.getElem?_eq_getElem hi];rfl)
  have gk:atR (T.map tP) (k:Int) id=.ok (tP T[k]):=gm (by rw[List.getElem?_map,List.getElem?_eq_getElem hk];rfl)
  generalize T[i]=A at *
  generalize T[k]=B at *
  obtain⟨b,ho,hb⟩:=zu (bt A mA) (bt B mB) bt
  obtain⟨b1,s1,q1⟩:=nh B1 jt (bt A mA) (bt B mB)
  obtain⟨b2,s2,q2⟩:=nh B2 S (bt A mA) (bt B mB)
  refine id (pT cq aV gi gk ho s1 s2 fun z=>?_)
  obtain⟨l,hl,o1,o2⟩:=yq B1 B2 S H mA mB hd (hb z)
  rcases List.mem_append.mp hl with hl|hl
  ·obtain⟨s,hs,rfl⟩:=List.mem_map.mp hl
   exact .inl (q1 ⟨s,hs,(Aq s A).mp o1,(Aq s B).mp o2⟩)
  ·obtain⟨s,hs,rfl⟩:=List.mem_map.mp hl
   exact .inr (q2 ⟨s,hs,o1,o2⟩)
 generalize c1.map ptP=C1 at *
 generalize c2.map ptP=C2 at *
 generalize YT x y w=Z at *
 have two:∀(k:Nat)(z5:Option SV),k<T.length→∃y5,aY [YL (T.map tP),YL C1,YL C2,Y Z,YI k,z5]=YN [YL (T.map tP),YL C1,YL C2,Y Z,YI k,y5]:=fun k z5 hk=>by
  obtain⟨σ',h1,y5,rfl⟩:=jz (gg:=gN 5) (c:=bG) (fun σ=>∃y5,σ=[YL (T.map tP),YL C1,YL C2,Y Z,YI k,y5]) (fun p=>∃i:Nat,i<k∧p=.int (i:Int))
   (by
    rintro p σ ⟨i,hi,rfl⟩ ⟨y5,rfl⟩
    exact⟨_,_,rfl,one k i hi hk,_,rfl⟩) ((List.range k).map fun (k:Nat)=>PV.int (k:Int)) (fun p hp=>by
    obtain⟨i,hi,rfl⟩:=List.mem_map.mp hp
    exact⟨i,List.mem_range.mp hi,rfl⟩) _ ⟨z5,rfl⟩
  have d1:ae 4 [YL (T.map tP),YL C1,YL C2,Y Z,YI k,z5]=.ok (.int ((k:Nat):Int)):=rfl
  exact⟨y5,id ((gF (f:=aD) (gg:=gN 5) (c:=bG) (p:=.int ((k:Nat):Int)) d1 (by rw[cH (by omega),i6])).trans h1)⟩
 obtain⟨σ',h1,y4,y5,rfl⟩:=jz (gg:=gN 4) (c:=aY) (fun σ=>∃y4 y5,σ=[YL (T.map tP),YL C1,YL C2,Y Z,y4,y5]) (fun p=>∃k:Nat,k<T.length∧p=.int (k:Int))
  (by
   rintro p σ ⟨k,hk,rfl⟩ ⟨y4,y5,rfl⟩
   obtain⟨y5',e⟩:=two k y5 hk
   exact⟨_,_,rfl,e,_,_,rfl⟩) ((List.range T.length).map fun (k:Nat)=>PV.int (k:Int)) (fun p hp=>by
   obtain⟨i,hi,rfl⟩:=List.mem_map.mp hp
   exact⟨i,List.mem_range.mp hi,rfl⟩) _ ⟨none,none,rfl⟩
 have ll:(T.map tP).length=T.length:=List.length_map ..
 generalize T.map tP=L at *
 have d1:bj 0 [YL L,YL C1,YL C2,Y Z,none,none]=.ok (.int ((L.length:Nat):Int)):=rfl
 have t0:(sIf (tV (e2 (cy fun i j=>decide (i<j)) (bj 0) (eC (.int 3)))) (aJ (eC (.bl false))) aQ) [YL L,YL C1,YL C2,Y Z,none,none]=YN [YL L,YL C1,YL C2,Y Z,none,none]:=by
  have:¬((L.length:Int)<3):=by omega
  simp[d1,this]
 have t1:=(gF (f:=aD) (gg:=gN 4) (c:=aY) (p:=.int ((L.length:Nat):Int)) d1 (by rw[cH (by omega),ll,i6])).trans h1
 rw[hm]
 exact congrArg fin (aN _ (ao (dZ (itR aD (aa (bj 0) aj)) (gN 4) aY) (aJ (eC (.bl true)))) t0 (aN _ (aJ (eC (.bl true))) t1 rfl))
theorem di{i:Nat}{d:DE}{σ:PSt}{p:PV}(h:d σ=.ok p):av i d σ=YN (σ.set i (Y p)):=by rw[i5,h];rfl
theorem pZ(f:Pt→Bool)(g:Nat→Pt):∀ks:List Nat,(ks.filterMap fun k=>if f (g k)=true then some (ptP (g k)) else none)=((ks.map g).filter f).map ptP
 |[]=>rfl
 |k::ks=>by
  rw[List.filterMap_cons,List.map_cons,List.filter_cons]
  have ih:=pZ f g ks
  by_cases h:f (g k)=true
  ·rw[if_pos h];simp only[h,if_true,List.map_cons,ih]
  ·rw[if_neg h];simp only[h];exact ih
theorem rh(cs:List Pt):(List.range cs.length).map (fun k=>cs.getD k (0,0))=cs:=by
 refine List.ext_getElem (by simp) fun i h1 h2=>?_
 simp[List.getD_eq_getElem?_getD,h2]
theorem zT{F:List Pt}(h:F≠[])(t:Pt):∃p∈F,∃q∈F,iU [.lst (F.map fun c=>PV.int (far t c))]=.ok (.int (far t p))∧dY [.lst (F.map fun c=>PV.int (far t c))]=.ok (.int (far t q))∧(∀r∈F,far t p≤far t r)∧∀r∈F,far t r≤far t q:=by
 obtain⟨a1,p,hp,e1⟩:=f6 h t
 obtain⟨a2,q,hq,e2⟩:=bF h t
 refine⟨p,hp,q,hq,?_,?_,fun r hr=>by rw[e1];exact a1 r hr,fun r hr=>by rw[e2];exact a2 r hr⟩
 ·rw[e1]
  cases F with
  |nil=>exact absurd rfl h
  |cons c r=>
   have e:((c::r).map fun q=>PV.int (far t q))=(far t c::r.map (far t)).map PV.int:=by simp
   rw[e,o6];rfl
 ·rw[e2]
  cases F with
  |nil=>exact absurd rfl h
  |cons c r=>
   have e:((c::r).map fun q=>PV.int (far t q))=(far t c::r.map (far t)).map PV.int:=by simp
   rw[e,o7];rfl
theorem wo{cs:List Pt}(B:Body cs){x y w:Int}(S:Shf x y w){n:Pt}(hn:PB 121 n){sg:Int}(hs:intBits sg≤1):
  ∃p q:Pt,bo [.lst (cs.map ptP),YT x y w,ptP n,.int sg]=.ok (.lst [.int (far (tt n) p*w+((tt n).1*x+(tt n).2*y)),.int (far (tt n) q*w+((tt n).1*x+(tt n).2*y))])∧Face cs (sg*n.1,sg*n.2) (tt n) p q:=by
 generalize hm:(sg*n.1,sg*n.2)=m
 have fm:∀c:Pt,far m c=sg*far n c:=fun c=>by rw[←hm];unfold far;simp only;grind
 have hl:=B.len
 have k1:c6 (itE (ae 0)) (gN 0) dF 1 [3,2] [YL (cs.map ptP),Y (YT x y w),Y (ptP n),YI sg,none,none,none,none,none]=.ok (.lst (cs.map fun c=>.int (far m c))):=
  fR (xs:=cs) (u:=ptP) (v:=fun c=>.int (far m c)) rfl (fun c hc=>by
   have pc:=B.pb c hc
   rw[iQ]
   show noErr (dF [Y (ptP c),YI sg,Y (ptP n)])=_
   have o3:=aq hs (fP pc hn) (by decide)
   rw[fm]
   unfold far at o3 ⊢
   simp[dF,aq pc.1 hn.1 (by decide),aq pc.2 hn.2 (by decide),o3]) (by omega)
 have mx:=wm B m
 have k2:∀z5 z6 z7 z8,(jQ 5 (itR aD (aa (bj 0) aj)) (gN 0) bP bR 1 [0,4]) [YL (cs.map ptP),Y (YT x y w),Y (ptP n),YI sg,YL (cs.map fun c=>PV.int (far m c)),z5,z6,z7,z8]=YN [YL (cs.map ptP),Y (YT x y w),Y (ptP n),YI sg,YL (cs.map fun c=>PV.int (far m c)),YL ((cs.filter fun c=>decide (far m c=hi cs m)).map ptP),z6,z7,z8]:=fun z5 z6 z7 z8=>by
  have d1:bj 0 [YL (cs.map ptP),Y (YT x y w),Y (ptP n),YI sg,YL (cs.map fun c=>PV.int (far m c)),z5,z6,z7,z8]=.ok (.int (((cs.map ptP).length:Nat):Int)):=rfl
  have hi':=sL (f:=aD) d1 (by rw[cH (by rw[List.length_map];omega),List.length_map,i6])
  have key:=t7 (i:=5) (g:=gN 0) (tc:=bP) (de:=bR) (k:=1) (ix:=[0,4]) (xs:=List.range cs.length) (u:=fun (k:Nat)=>PV.int (k:Int)) (v:=fun k=>if decide (far m (cs.getD k (0,0))=hi cs m)=true then some (ptP (cs.getD k (0,0))) else none) hi' (fun k hk=>by
   have hk':=List.mem_range.mp hk
   show df (gN 0) bP bR [none,YL (cs.map ptP),YL (cs.map fun c=>PV.int (far m c))] (.int (k:Int))=_
   have gc:cs[k]? = some (cs.getD k (0,0)):=by simp[List.getD_eq_getElem?_getD,hk']
   have g1:atR (cs.map ptP) (k:Int) id=.ok (ptP (cs.getD k (0,0))):=gm (by rw[List.getElem?_map,gc];rfl)
   have g2:atR (cs.map fun c=>PV.int (far m c)) (k:Int) id=.ok (.int (far m (cs.getD k (0,0)))):=gm (by rw[List.getElem?_map,gc];rfl)
   generalize cs.getD k (0,0)=c at *
   generalize cs.map ptP=C at *
   generalize (cs.map fun c=>PV.int (far m c))=E at *
   unfold df
   have tt:bP [YI (k:Int),YL C,YL E]=.ok (decide (far m c=hi cs m)):=by
    simp[bP,g2,mx]
   have ee:bR [YI (k:Int),YL C,YL E]=.ok (ptP c):=by
    simp[bR,g1]
   show(match bP [YI (k:Int),YL C,YL E] with
    |.ok true=>(match noErr (bR [YI (k:Int),YL C,YL E]) with
     |.ok q=>Res.ok (some q)
     |_=>.stuck)
    |.ok false=>.ok none
    |_=>.stuck)=_
   rw[tt,ee]
   by_cases h:far m c=hi cs m
   ·simp[h]
   ·simp[h]) (by rw[List.length_range];omega)
  rw[key,pZ (fun c=>decide (far m c=hi cs m)) (fun k=>cs.getD k (0,0)),rh]
  simp only[List.set_cons_succ,List.set_cons_zero]
 have memF:∀c,c∈(cs.filter fun c=>decide (far m c=hi cs m))↔c∈cs∧far m c=hi cs m:=fun c=>by rw[List.mem_filter];simp
 have lenF:(cs.filter fun c=>decide (far m c=hi cs m)).length≤cs.length:=List.length_filter_le ..
 generalize (cs.filter fun c=>decide (far m c=hi cs m))=F at *
 have F0:F≠[]:=fun z=>by
  obtain⟨_,q,hq,e⟩:=bF B.ne m
  have:=(memF q).mpr ⟨hq,e⟩
  rw[z]at this
  simp at this
 obtain⟨p,hp,q,hq,mn,mx2,lo',hi''⟩:=zT F0 (tt n)
 have hp':=(memF p).mp hp
 have hq':=(memF q).mp hq
 refine⟨p,q,?_,⟨hp'.1,hq'.1,hp'.2,hq'.2,fun r hr h=>lo' r ((memF r).mpr ⟨hr,h⟩),fun r hr h=>hi'' r ((memF r).mpr ⟨hr,h⟩)⟩⟩
 have k3:∀x0 x1 x3 x4 x6 z7 z8,(eT 7 (itE (ae 5)) (gN 0) dE 1 [2]) [x0,x1,Y (ptP n),x3,x4,YL (F.map ptP),x6,z7,z8]=YN [x0,x1,Y (ptP n),x3,x4,YL (F.map ptP),x6,YL (F.map fun c=>PV.int (far (tt n) c)),z8]:=fun x0 x1 x3 x4 x6 z7 z8=>by
  rw[gG (xs:=F) (u:=ptP) (v:=fun c=>PV.int (far (tt n) c)) rfl (fun c hc=>by
   have pc:=B.pb c ((memF c).mp hc).1
   rw[iQ]
   show noErr (dE [Y (ptP c),Y (ptP n)])=_
   have e:far (tt n) c=n.1*c.2-n.2*c.1:=by unfold far tt;simp only;grind
   rw[e]
   simp[dE,aq hn.1 pc.2 (by decide),aq hn.2 pc.1 (by decide)]) (by omega)]
  simp only[List.set_cons_succ,List.set_cons_zero]
 have tpb:PB 121 (tt n):=⟨by have:intBits (-n.2)≤121:=bits_neg hn.2;exact this,hn.1⟩
 have o1:=aq (fP (B.pb p hp'.1) tpb) S.wb (by decide)
 have o2:=aq (fP (B.pb q hq'.1) tpb) S.wb (by decide)
 have o3:=aq hn.1 S.yb (by decide)
 have o4:=aq hn.2 S.xb (by decide)
 have eo:(tt n).1*x+(tt n).2*y=n.1*y-n.2*x:=by unfold tt;simp only;grind
 rw[eo]
 have hmm:bo [.lst (cs.map ptP),YT x y w,ptP n,.int sg]=fin (dM [YL (cs.map ptP),Y (YT x y w),Y (ptP n),YI sg,none,none,none,none,none]):=by
  unfold bo;rw[vq];rfl
 rw[hmm]
 generalize cs.map ptP=C at *
 generalize (cs.map fun c=>PV.int (far m c))=E at *
 generalize F.map ptP=FP at *
 generalize (F.map fun c=>PV.int (far (tt n) c))=FT at *
 generalize far (tt n) p=P at *
 generalize far (tt n) q=Q at *
 have s6:(aJ (eA iM (aa (e2 aS (e2 ay (eA iU (aa (ae 7) aj)) (ae 6)) (ae 8)) (aa (e2 aS (e2 ay (eA dY (aa (ae 7) aj)) (ae 6)) (ae 8)) aj)))) [YL C,Y (YT x y w),Y (ptP n),YI sg,YL E,YL FP,YI w,YL FT,YI (n.1*y-n.2*x)]=.ok (.ret (.lst [.int (P*w+(n.1*y-n.2*x)),.int (Q*w+(n.1*y-n.2*x))])):=by
  generalize n.1*y-n.2*x=O
  have pl:iM [.int (P*w+O),.int (Q*w+O)]=.ok (.lst [.int (P*w+O),.int (Q*w+O)]):=rfl
  simp[mn,mx2,o1,o2,pl]
 have all:dM [YL C,Y (YT x y w),Y (ptP n),YI sg,none,none,none,none,none]=_:=aN _ _ (di k1) (aN _ _ (k2 _ _ _ _) (aN _ _ (di (p:=.int w) rfl) (aN _ _ (k3 _ _ _ _ _ _ _) (aN _ _ (di (p:=.int (n.1*y-n.2*x)) (by simp[o3,o4])) s6))))
 rw[all]
 rfl
theorem ie(M:List PV→Res PV){i:Nat}{da db dc dd:DE}{σ:PSt}{p q s t r:PV}(h1:da σ=.ok p)(h2:db σ=.ok q)(h3:dc σ=.ok s)(h4:dd σ=.ok t)(h:M [p,q,s,t]=.ok r):av i (eA (fun ps=>noErr (M ps)) (aa da (aa db (aa dc (aa dd aj))))) σ=YN (σ.set i (Y r)):=by
 simp only[i5,oX,dr,fh,h1,h2,h3,h4,ar,h,fX]
theorem yr{F R:DS}{σ:PSt}{p:PV}(h:F σ=.ok (.ret p)):(ao F R) σ=.ok (.ret p):=by rw[bJ,h];rfl
theorem Co{t:DT}{a b:DS}{σ:PSt}(h:t σ=.ok true):sIf t a b σ=a σ:=by simp[h]
theorem w5{t:DT}{a b:DS}{σ:PSt}(h:t σ=.ok false):sIf t a b σ=b σ:=by simp[h]
theorem Ef{f:Int→Int→Bool}{c d:DE}{σ:PSt}{a b:Int}{k:Bool}(h1:c σ=.ok (.int a))(h2:d σ=.ok (.int b))(h:f a b=k):tV (e2 (cy f) c d) σ=.ok k:=by simp[h1,h2,h]
theorem p7(BM:List PV→Res PV){d5 d7 d6:DE}{σ:PSt}{a w b m:Int}(h1:d5 σ=.ok (.int a))(h2:d7 σ=.ok (.int w))(o:ay (.int a) (.int w)=.ok (.int (a*w)))(h3:d6 σ=.ok (.int b))(e:BM [.int (a*w),.int b]=.ok (.int m)):eA BM (aa (e2 ay d5 d7) (aa d6 aj)) σ=.ok (.int m):=by simp[h1,h2,o,h3,e]
theorem D7(n:Pt)(V:Sp):gam n V=n.1*V.2.1-n.2*V.1:=by unfold gam tt;simp only;grind
theorem qR{x0 x1 x2 x3 x5 x6:Option SV}{n:Pt}{V:Sp}{w lw hg a b:Int}(z12:Option SV)
  (o1:ay (.int n.1) (.int V.2.1)=.ok (.int (n.1*V.2.1))) (o2:ay (.int n.2) (.int V.1)=.ok (.int (n.2*V.1))) (o3:ay (.int (n.1*V.2.1-n.2*V.1)) (.int w)=.ok (.int ((n.1*V.2.1-n.2*V.1)*w))) (o4:ay (.int lw) (.int V.2.2)=.ok (.int (lw*V.2.2))) (o5:ay (.int hg) (.int V.2.2)=.ok (.int (hg*V.2.2))):
  az [x0,x1,x2,x3,Y (ptP n),x5,x6,YI w,YI lw,YI hg,YL [.int a,.int b],Y (tP V),z12] =
   YN [x0,x1,x2,x3,Y (ptP n),x5,x6,YI w,YI lw,YI hg,YL [.int (a+if gam n V*w=lw*V.2.2 then 1 else 0),.int (b+if gam n V*w=hg*V.2.2 then 1 else 0)],Y (tP V),YI (gam n V*w)]:=by
 rw[D7,az]
 unfold tP ptP
 have pl:∀p q:Int,iM [.int p,.int q]=.ok (.lst [.int p,.int q]):=fun _ _=>rfl
 simp[o1,o2,o3,o4,o5,pl]
theorem max2(a b:Int):∃m,rY [.int a,.int b]=.ok (.int m)∧a≤m∧b≤m∧(m=a∨m=b):=by
 refine⟨_,xQ,?_⟩
 split<;>omega
theorem min2(a b:Int):∃m,rX [.int a,.int b]=.ok (.int m)∧m≤a∧m≤b∧(m=a∨m=b):=by
 refine⟨_,xP,?_⟩
 split<;>omega
theorem zr{c1 c2:List Pt}(B1:Body c1)(B2:Body c2){x y w:Int}(S:Shf x y w){T:List Sp}(H:Told c1 c2 x y w T){n:Pt}(hn:n≠(0,0))(pn:PB 121 n)(hg:cE c1 c2 x y w n=0):aM [.lst (T.map tP),.lst (c1.map ptP),.lst (c2.map ptP),YT x y w,ptP n]=.ok (.bl true):=by
 have wp:=S.pos
 obtain⟨p1,q1,m1,F1⟩:=wo B1 jt pn (sg:=1) (ck (by decide))
 obtain⟨p2,q2,m2,F2⟩:=wo B2 S pn (sg:=-1) (ck (by decide))
 have en:((1:Int)*n.1,(1:Int)*n.2)=n:=Prod.ext (Int.one_mul _) (Int.one_mul _)
 have en2:((-1:Int)*n.1,(-1:Int)*n.2)=(-n.1,-n.2):=Prod.ext (by show -1*n.1 = -n.1;omega) (by show -1*n.2 = -n.2;omega)
 rw[en]at F1
 rw[en2]at F2
 have e0:∀k:Int,k*1+((tt n).1*0+(tt n).2*0)=k:=fun k=>by omega
 rw[e0,e0]at m1
 have tpb:PB 121 (tt n):=⟨by have:intBits (-n.2)≤121:=bits_neg pn.2;exact this,pn.1⟩
 have fb:∀{cs:List Pt}(B:Body cs){c:Pt},c∈cs→intBits (far (tt n) c)≤242:=fun {cs} B {c} hc=>fP (B.pb c hc) tpb
 have ob:intBits ((tt n).1*x+(tt n).2*y)≤600:=Nat.le_trans (bits_add (bits_mul tpb.1 S.xb) (bits_mul tpb.2 S.yb)) (by decide)
 have b1:∀{c:Pt},c∈c1→intBits (far (tt n) c*w)≤1200:=fun hc=>Nat.le_trans (bits_mul (fb B1 hc) S.wb) (by decide)
 have b2:∀{c:Pt},c∈c2→intBits (far (tt n) c*w+((tt n).1*x+(tt n).2*y))≤1200:=fun hc=>Nat.le_trans (bits_add (bits_mul (fb B2 hc) S.wb) ob) (by decide)
 obtain⟨lw,el,l1,l2,l3⟩:=max2 (far (tt n) p1*w) (far (tt n) p2*w+((tt n).1*x+(tt n).2*y))
 obtain⟨hg',eh,h1,h2,h3⟩:=min2 (far (tt n) q1*w) (far (tt n) q2*w+((tt n).1*x+(tt n).2*y))
 have lb:intBits lw≤1200:=by
  rcases l3 with z|z<;>rw[z]
  ·exact b1 F1.pm
  ·exact b2 F2.pm
 have hb:intBits hg'≤1200:=by
  rcases h3 with z|z<;>rw[z]
  ·exact b1 F1.qm
  ·exact b2 F2.qm
 have all:∀V∈T,lw*V.2.2≤gam n V*w∧gam n V*w≤hg'*V.2.2:=fun V hV=>by
  have vt:=H.vtx V hV
  have v0:=vt.pos
  obtain⟨a1,a2,a3,a4⟩:=xU B1 B2 S hg F1 F2 v0 vt.all
  have a1':=Int.mul_le_mul_of_nonneg_right a1 (Int.le_of_lt wp)
  have a2':=Int.mul_le_mul_of_nonneg_right a2 (Int.le_of_lt wp)
  have s1:far (tt n) p1*V.2.2*w=far (tt n) p1*w*V.2.2:=by grind
  have s2:far (tt n) q1*V.2.2*w=far (tt n) q1*w*V.2.2:=by grind
  constructor
  ·rcases l3 with z|z<;>rw[z]
   ·omega
   ·exact a3
  ·rcases h3 with z|z<;>rw[z]
   ·omega
   ·exact a4
 have o1:=aq (fb B1 F1.pm) S.wb (by decide)
 have o2:=aq (fb B1 F1.qm) S.wb (by decide)
 have step:∀V∈T,∀(x0 x1 x2 x3 x5 x6 z12:Option SV)(a b:Int),az [x0,x1,x2,x3,Y (ptP n),x5,x6,YI w,YI lw,YI hg',YL [.int a,.int b],Y (tP V),z12] =
   YN [x0,x1,x2,x3,Y (ptP n),x5,x6,YI w,YI lw,YI hg',YL [.int (a+if gam n V*w=lw*V.2.2 then 1 else 0),.int (b+if gam n V*w=hg'*V.2.2 then 1 else 0)],Y (tP V),YI (gam n V*w)]:=fun V hV x0 x1 x2 x3 x5 x6 z12 a b=>by
  have ok:=H.ok V hV
  exact qR z12 (aq pn.1 ok.b (by decide)) (aq pn.2 ok.a (by decide)) (aq (bits_sub (bits_mul pn.1 ok.b) (bits_mul pn.2 ok.a)) S.wb (by decide)) (aq lb ok.c (by decide)) (aq hb ok.c (by decide))
 have hm:aM [.lst (T.map tP),.lst (c1.map ptP),.lst (c2.map ptP),YT x y w,ptP n]=fin (a8 [YL (T.map tP),YL (c1.map ptP),YL (c2.map ptP),Y (YT x y w),Y (ptP n),none,none,none,none,none,none,none,none]):=by
  unfold aM;rw[Dc];rfl
 have geo:(hg'<lw∧T=[])∨(lw≤hg'∧∃P∈T,∃Q∈T,gam n P*w=lw*P.2.2∧gam n Q*w=hg'*Q.2.2∧((lw=hg'∧P=Q∧T=[P])∨(lw<hg'∧(T=[P,Q]∨T=[Q,P])))):=by
  rcases Int.lt_or_le hg' lw with z|z
  ·refine .inl ⟨z,List.eq_nil_iff_forall_not_mem.mpr fun V hV=>?_⟩
   obtain⟨a1,a2⟩:=all V hV
   have:=Int.mul_lt_mul_of_pos_right z (H.vtx V hV).pos
   omega
  ·refine .inr ⟨z,?_⟩
   obtain⟨P,hP,eP⟩:=qH B1 B2 S H hn hg F1 F2 (Z:=lw) l1 (by omega) l2 (by omega) (by
    rcases l3 with z|z
    ·exact .inl ⟨p1,F1.pm,F1.fp,z⟩
    ·exact .inr ⟨p2,F2.pm,F2.fp,z⟩)
   obtain⟨Q,hQ,eQ⟩:=qH B1 B2 S H hn hg F1 F2 (Z:=hg') (by omega) h1 (by omega) h2 (by
    rcases h3 with z|z
    ·exact .inl ⟨q1,F1.qm,F1.fq,z⟩
    ·exact .inr ⟨q2,F2.qm,F2.fq,z⟩)
   have same:∀{U V:Sp}{Z:Int},U∈T→V∈T→gam n U*w=Z*U.2.2→gam n V*w=Z*V.2.2→U=V:=fun {U V Z} hU hV eU eV=>by
    refine uV B1 B2 S H hn hg F1 F2 hU hV ?_
    have k:gam n U*V.2.2*w=gam n V*U.2.2*w:=by
     have k1:gam n U*V.2.2*w=gam n U*w*V.2.2:=by grind
     have k2:gam n V*U.2.2*w=gam n V*w*U.2.2:=by grind
     rw[k1,k2,eU,eV];grind
    exact Int.eq_of_mul_eq_mul_right (by omega) k
   have ends:∀V∈T,V=P∨V=Q:=fun V hV=>by
    obtain⟨a1,a2⟩:=all V hV
    rcases Int.lt_or_eq_of_le a1 with z1|z1
    ·rcases Int.lt_or_eq_of_le a2 with z2|z2
     ·exact(uU B1 B2 S H hn hg F1 F2 hV l1 l2 h1 h2 z1 z2).elim
     ·exact .inr (same hV hQ z2 eQ)
    ·exact .inl (same hV hP z1.symm eP)
   refine⟨P,hP,Q,hQ,eP,eQ,?_⟩
   rcases ve H.nodup hP hQ ends with ⟨e,t⟩|⟨e,t⟩
   ·refine .inl ⟨?_,e,t⟩
    rw[←e,eP]at eQ
    have:=(H.vtx P hP).pos
    exact Int.eq_of_mul_eq_mul_right (by omega) eQ
   ·refine .inr ⟨?_,t⟩
    rcases Int.lt_or_eq_of_le z with z|z
    ·exact z
    ·rw[←z]at eQ
     exact absurd (same hP hQ eP eQ) e
 have tl:(T.map tP).length=T.length:=List.length_map ..
 have tn:T=[]→T.map tP=[]:=fun z=>by rw[z];rfl
 have loop:∀(x0 x1 x2 x3 x5 x6:Option SV),lw≤hg'→(∃y11 y12,cO (gN 11) az (T.map tP) [x0,x1,x2,x3,Y (ptP n),x5,x6,YI w,YI lw,YI hg',YL [.int 0,.int 0],none,none]=YN [x0,x1,x2,x3,Y (ptP n),x5,x6,YI w,YI lw,YI hg',YL [.int 1,.int 1],y11,y12])∧(T.length:Int)=1+if lw<hg' then 1 else 0:=fun x0 x1 x2 x3 x5 x6 hle=>by
  rcases geo with ⟨z,_⟩|⟨_,P,hP,Q,hQ,eP,eQ,z⟩
  ·omega
  ·rcases z with ⟨z,e,t⟩|⟨z,t⟩
   ·refine⟨⟨Y (tP P),YI (gam n P*w),?_⟩,by rw[t,if_neg (by omega)];rfl⟩
    have st:=step P hP x0 x1 x2 x3 x5 x6 none 0 0
    rw[if_pos eP,if_pos (by rw[←z];exact eP)]at st
    rw[t]
    show cO (gN 11) az [tP P] _=_
    rw[aX (σ1:=[x0,x1,x2,x3,Y (ptP n),x5,x6,YI w,YI lw,YI hg',YL [.int 0,.int 0],Y (tP P),none]) rfl,st]
    rfl
   ·have p0:=(H.vtx P hP).pos
    have q0:=(H.vtx Q hQ).pos
    have nP:¬gam n P*w=hg'*P.2.2:=fun k=>by
     have:=Int.mul_lt_mul_of_pos_right z p0
     omega
    have nQ:¬gam n Q*w=lw*Q.2.2:=fun k=>by
     have:=Int.mul_lt_mul_of_pos_right z q0
     omega
    have lenT:(T.length:Int)=1+if lw<hg' then 1 else 0:=by
     rw[if_pos z]
     rcases t with t|t<;>rw[t]<;>rfl
    refine⟨?_,lenT⟩
    rcases t with t|t
    ·refine⟨Y (tP Q),YI (gam n Q*w),?_⟩
     have st:=step P hP x0 x1 x2 x3 x5 x6 none 0 0
     rw[if_pos eP,if_neg nP]at st
     have st2:=step Q hQ x0 x1 x2 x3 x5 x6 (YI (gam n P*w)) (0+1) (0+0)
     rw[if_neg nQ,if_pos eQ]at st2
     rw[t]
     show cO (gN 11) az [tP P,tP Q] _=_
     rw[aX (σ1:=[x0,x1,x2,x3,Y (ptP n),x5,x6,YI w,YI lw,YI hg',YL [.int 0,.int 0],Y (tP P),none]) rfl,st]
     simp only[ar]
     show cO (gN 11) az [tP Q] _=_
     rw[aX (σ1:=[x0,x1,x2,x3,Y (ptP n),x5,x6,YI w,YI lw,YI hg',YL [.int (0+1),.int (0+0)],Y (tP Q),YI (gam n P*w)]) rfl,st2]
     rfl
    ·refine⟨Y (tP P),YI (gam n P*w),?_⟩
     have st:=step Q hQ x0 x1 x2 x3 x5 x6 none 0 0
     rw[if_neg nQ,if_pos eQ]at st
     have st2:=step P hP x0 x1 x2 x3 x5 x6 (YI (gam n Q*w)) (0+0) (0+1)
     rw[if_pos eP,if_neg nP]at st2
     rw[t]
     show cO (gN 11) az [tP Q,tP P] _=_
     rw[aX (σ1:=[x0,x1,x2,x3,Y (ptP n),x5,x6,YI w,YI lw,YI hg',YL [.int 0,.int 0],Y (tP Q),none]) rfl,st]
     simp only[ar]
     show cO (gN 11) az [tP P] _=_
     rw[aX (σ1:=[x0,x1,x2,x3,Y (ptP n),x5,x6,YI w,YI lw,YI hg',YL [.int (0+0),.int (0+1)],Y (tP P),YI (gam n Q*w)]) rfl,st2]
     rfl
 rw[hm]
 have nonil:lw≤hg'∨(hg'<lw∧T=[]):=by
  rcases geo with z|z
  ·exact .inr z
  ·exact .inl z.1
 clear geo step all
 have s4:=fun {d5 d7 d6:DE} {σ:PSt} (k1:d5 σ=.ok (.int (far (tt n) p1))) (k2:d7 σ=.ok (.int w)) k3=>p7 rY (d6:=d6) k1 k2 o1 k3 el
 have s5:=fun {d5 d7 d6:DE} {σ:PSt} (k1:d5 σ=.ok (.int (far (tt n) q1))) (k2:d7 σ=.ok (.int w)) k3=>p7 rX (d6:=d6) k1 k2 o2 k3 eh
 generalize T.map tP=L at *
 generalize c1.map ptP=C1 at *
 generalize c2.map ptP=C2 at *
 generalize far (tt n) p1=P1 at *
 generalize far (tt n) q1=Q1 at *
 generalize far (tt n) p2*w+((tt n).1*x+(tt n).2*y)=P2 at *
 generalize far (tt n) q2*w+((tt n).1*x+(tt n).2*y)=Q2 at *
 rcases nonil with hle|⟨hlt,t⟩
 ·obtain⟨⟨y11,y12,lp⟩,lenT⟩:=loop (YL L) (YL C1) (YL C2) (Y (YT x y w)) (YL [.int P1,.int Q1]) (YL [.int P2,.int Q2]) hle
  have s9:(aJ (rR (e2 pEq (ae 10) (eA iM (aa (eC (.int 1)) (aa (eC (.int 1)) aj)))) (e2 pEq (bj 0) (e2 aS (eC (.int 1)) (eA ke (aa (e2 (cy fun i j=>decide (i<j)) (ae 8) (ae 9)) aj)))))) [YL L,YL C1,YL C2,Y (YT x y w),Y (ptP n),YL [.int P1,.int Q1],YL [.int P2,.int Q2],YI w,YI lw,YI hg',YL [.int 1,.int 1],y11,y12]=.ok (.ret (.bl true)):=by
   have q1:pEq (.lst [.int 1,.int 1]) (.lst [.int 1,.int 1])=.ok (.bl true):=rfl
   simp[q1,tl,lenT]
  have fin':a8 [YL L,YL C1,YL C2,Y (YT x y w),Y (ptP n),none,none,none,none,none,none,none,none]=_:=
   aN _ _ (ie bo rfl rfl rfl rfl m1) (aN _ _ (ie bo rfl rfl rfl rfl m2) (aN _ _ (di (p:=.int w) rfl) (aN _ _ (di (s4 rfl rfl rfl)) (aN _ _ (di (s5 rfl rfl rfl)) (aN _ _ ((w5 (Ef (f:=fun i j=>decide (j<i)) (a:=lw) (b:=hg') (k:=false) rfl rfl (by simp;omega))).trans rfl) (aN _ _ (di (p:=.lst [.int 0,.int 0]) rfl) (aN _ _ (gE.trans lp) s9)))))))
  rw[fin']
  rfl
 ·have eL:=tn t
  subst eL
  have fin':a8 [YL [],YL C1,YL C2,Y (YT x y w),Y (ptP n),none,none,none,none,none,none,none,none]=.ok (.ret (.bl true)):=
   aN _ _ (ie bo rfl rfl rfl rfl m1) (aN _ _ (ie bo rfl rfl rfl rfl m2) (aN _ _ (di (p:=.int w) rfl) (aN _ _ (di (s4 rfl rfl rfl)) (aN _ _ (di (s5 rfl rfl rfl)) (yr ((Co (Ef (f:=fun i j=>decide (j<i)) (a:=lw) (b:=hg') (k:=true) rfl rfl (by simp[hlt]))).trans rfl))))))
  rw[fin']
  rfl
theorem tM{L:List Sp}{A B C:Sp}(hA:A∈L)(hB:B∈L)(hC:C∈L)(h1:A≠B)(h2:A≠C)(h3:B≠C):3≤L.length:=by
 have b1:B∈L.erase A:=(List.mem_erase_of_ne (Ne.symm h1)).mpr hB
 have c1:C∈L.erase A:=(List.mem_erase_of_ne (Ne.symm h2)).mpr hC
 have c2:C∈(L.erase A).erase B:=(List.mem_erase_of_ne (Ne.symm h3)).mpr c1
 have l1:=List.length_erase_of_mem hA
 have l2:=List.length_erase_of_mem b1
 have l3:=List.length_pos_of_mem c2
 omega
theorem w8(MR:List PV→Res PV){a b c d:DE}{σ:PSt}{p0 p1 p2 p3:PV}(h0:a σ=.ok p0)(h1:b σ=.ok p1)(h2:c σ=.ok p2)(h3:d σ=.ok p3)(R:MR [p0,p1,p2,p3]=.ok (.bl true)):
  (sIf (G.eS (tV (eA (fun ps=>noErr (MR ps)) (aa a (aa b (aa c (aa d aj))))))) (aJ (eC (.bl false))) aQ) σ=YN σ:=by
 simp[h0,h1,h2,h3,R]
theorem w6(MR:List PV→Res PV){a b c d e:DE}{σ:PSt}{p0 p1 p2 p3 p4:PV}(h0:a σ=.ok p0)(h1:b σ=.ok p1)(h2:c σ=.ok p2)(h3:d σ=.ok p3)(h4:e σ=.ok p4)(R:MR [p0,p1,p2,p3,p4]=.ok (.bl true)):
  (sIf (G.eS (tV (eA (fun ps=>noErr (MR ps)) (aa a (aa b (aa c (aa d (aa e aj)))))))) (aJ (eC (.bl false))) aQ) σ=YN σ:=by
 simp[h0,h1,h2,h3,h4,R]
theorem tR(M:List PV→Res PV){i:Nat}{da db dc:DE}{σ:PSt}{p q s r:PV}(h1:da σ=.ok p)(h2:db σ=.ok q)(h3:dc σ=.ok s)(h:M [p,q,s]=.ok r):av i (eA (fun ps=>noErr (M ps)) (aa da (aa db (aa dc aj)))) σ=YN (σ.set i (Y r)):=by
 simp only[i5,oX,dr,fh,h1,h2,h3,ar,h,fX]
theorem xS{ds:List Pt}(g:Pt→Int)(h:(0:Int)∈ds.map g):∃(n:Pt)(k:Nat),n∈ds∧g n=0∧jY (.lst (ds.map fun n=>PV.int (g n))) (.int 0)=.ok (.int (k:Int))∧atR (ds.map ptP) (k:Int) id=.ok (ptP n):=by
 have hk:(ds.map g).idxOf 0<(ds.map g).length:=List.idxOf_lt_length_of_mem h
 have hk':(ds.map g).idxOf 0<ds.length:=by rw[List.length_map]at hk;exact hk
 have e:(ds.map fun n=>PV.int (g n))=(ds.map g).map PV.int:=by rw[List.map_map];rfl
 refine⟨ds[(ds.map g).idxOf 0],(ds.map g).idxOf 0,List.getElem_mem _,?_,?_,gm (by rw[List.getElem?_map,List.getElem?_eq_getElem hk'];rfl)⟩
 ·have:=List.getElem_idxOf hk
  rw[List.getElem_map]at this
  exact this
 ·rw[e]
  simp only[jY,fe,if_pos h]
theorem BV{c1 c2:List Pt}(B1:Body c1)(x y w:Int):∃m,dY [.lst ((dk c1 c2).map fun n=>PV.int (cE c1 c2 x y w n))]=.ok (.int m)∧(∀n∈dk c1 c2,cE c1 c2 x y w n≤m)∧∃n∈dk c1 c2,cE c1 c2 x y w n=m:=by
 have hl:=qd c1 c2
 have h3:=B1.three
 generalize dk c1 c2=L at *
 cases L with
 |nil=>simp at hl;omega
 |cons d ds=>
  have e:((d::ds).map fun n=>PV.int (cE c1 c2 x y w n))=(cE c1 c2 x y w d::ds.map (cE c1 c2 x y w)).map PV.int:=by simp
  refine⟨_,by rw[e,o7],?_⟩
  obtain⟨p1,p2,p3⟩:=kG (ds.map (cE c1 c2 x y w)) (cE c1 c2 x y w d)
  refine⟨fun n hn=>?_,?_⟩
  ·rcases List.mem_cons.mp hn with rfl|hn
   ·exact p1
   ·exact p2 _ (List.mem_map_of_mem hn)
  ·rcases p3 with z|z
   ·exact⟨d,.head _,z.symm⟩
   ·obtain⟨n,hn,z⟩:=List.mem_map.mp z
    exact⟨n,.tail _ hn,z⟩
theorem uA(ns:List Int)(a:Int)(f:Nat→Int)(hf:∀k:Nat,bZ [.scr ns,.int (a+(k:Int))]=.ok (.int (f k)))(z2 z3 z4 z5 z6 z7 z8 z9:Option SV):(eT 2 (itR aD (aa (eC (.int 6)) aj)) (gN 0) kP 1 [0,1]) [Y (.scr ns),YI a,z2,z3,z4,z5,z6,z7,z8,z9] =
   YN [Y (.scr ns),YI a,YL ((List.range 6).map fun k=>PV.int (f k)),z3,z4,z5,z6,z7,z8,z9]:=by
 have h6:eC (.int 6) [Y (.scr ns),YI a,z2,z3,z4,z5,z6,z7,z8,z9]=.ok (.int ((6:Nat):Int)):=rfl
 have hi:=sL (f:=aD) h6 (by rw[cH (n:=6) (by decide),i6])
 rw[gG (xs:=List.range 6) (u:=fun (k:Nat)=>PV.int (k:Int)) (v:=fun k=>PV.int (f k)) hi (fun k _=>by
    rw[iQ]
    show noErr (kP [YI (k:Int),Y (.scr ns),YI a])=_
    simp[kP,hf]) (by decide)]
 simp only[List.set_cons_succ,List.set_cons_zero]
theorem wI{c1 c2:List Pt}(B1:Body c1)(B2:Body c2){x y w:Int}(S:Shf x y w)(z0 z1 z2 z3 z7 z9:Option SV):(eT 9 (itE (ae 8)) (gN 0) kO 1 [4,5,6]) [z0,z1,z2,z3,YL (c1.map ptP),YL (c2.map ptP),Y (YT x y w),z7,YL ((dk c1 c2).map ptP),z9] =
   YN [z0,z1,z2,z3,YL (c1.map ptP),YL (c2.map ptP),Y (YT x y w),z7,YL ((dk c1 c2).map ptP),YL ((dk c1 c2).map fun n=>PV.int (cE c1 c2 x y w n))]:=by
 rw[gG (xs:=dk c1 c2) (u:=ptP) (v:=fun n=>PV.int (cE c1 c2 x y w n)) rfl (fun n hn=>by
    have pn:=(tf B1 B2 (D2.mp hn)).1
    have hg:=BZ B1 B2 (Nat.le_trans S.xb (by decide)) (Nat.le_trans S.yb (by decide)) (Nat.le_trans S.wb (by decide)) (n:=n) ⟨Nat.le_trans pn.1 (by decide),Nat.le_trans pn.2 (by decide)⟩
    rw[iQ]
    show noErr (kO [Y (ptP n),YL (c1.map ptP),YL (c2.map ptP),Y (YT x y w)])=_
    generalize c1.map ptP=C1 at *
    generalize c2.map ptP=C2 at *
    rw[kO]
    simp[hg]) (by have:=qd c1 c2;have:=B1.len;have:=B2.len;omega)]
 simp only[List.set_cons_succ,List.set_cons_zero]
theorem zA(MT MR:List PV→Res PV){x0 x1 x2 x3 C1 C2 Z:PV}{L D E:List PV}{m:Int}(hm:dY [.lst E]=.ok (.int m))(c1:0<m→L=[])(c2:m=0→∃(k:Nat)(N:PV),jY (.lst E) (.int 0)=.ok (.int (k:Int))∧atR D (k:Int) id=.ok N∧MT [.lst L,C1,C2,Z,N]=.ok (.bl true))(c3:m<0→MR [.lst L,C1,C2,Z]=.ok (.bl true)):
  (sIf (tV (e2 (cy fun i j=>decide (j<i)) (eA dY (aa (ae 9) aj)) (eC (.int 0)))) (sIf (tV (e2 pNe (ae 7) (eA iM aj))) (aJ (eC (.bl false))) aQ) (sIf (tV (e2 pEq (eA dY (aa (ae 9) aj)) (eC (.int 0)))) (sIf (G.eS (tV (eA (fun ps=>noErr (MT ps)) (aa (ae 7) (aa (ae 4) (aa (ae 5) (aa (ae 6) (aa (ah 8 (iw 9 (eC (.int 0)))) aj)))))))) (aJ (eC (.bl false))) aQ) (sIf (G.eS (tV (eA (fun ps=>noErr (MR ps)) (aa (ae 7) (aa (ae 4) (aa (ae 5) (aa (ae 6) aj))))))) (aJ (eC (.bl false))) aQ)))
   [Y x0,Y x1,Y x2,Y x3,Y C1,Y C2,Y Z,YL L,YL D,YL E]=YN [Y x0,Y x1,Y x2,Y x3,Y C1,Y C2,Y Z,YL L,YL D,YL E]:=by
 rcases Int.lt_trichotomy m 0 with z|z|z
 ·have n1:¬0<m:=by omega
  have n2:¬m=0:=by omega
  rw[w5 (by simp[hm,n1]),w5 (by simp[hm,n2])]
  exact w8 MR rfl rfl rfl rfl (c3 z)
 ·have n1:¬0<m:=by omega
  obtain⟨k,N,h1,h2,h3⟩:=c2 z
  rw[w5 (by simp[hm,n1]),Co (by simp[hm,z])]
  refine w6 MT rfl rfl rfl rfl ?_ h3
  have hx:iw 9 (eC (.int 0)) [Y x0,Y x1,Y x2,Y x3,Y C1,Y C2,Y Z,YL L,YL D,YL E]=.ok (.int (k:Int)):=h1
  simp[hx,h2]
 ·have eL:=c1 z
  subst eL
  have q1:pNe (.lst []) (.lst [])=.ok (.bl false):=rfl
  have pl:iM []=.ok (.lst []):=rfl
  rw[Co (by simp[hm,z]),w5 (by simp[q1,pl])]
  rfl
theorem wH(ns:List Int)(a:Int)(f:Nat→Int)(hf:∀k:Nat,bZ [.scr ns,.int (a+(k:Int))]=.ok (.int (f k)))(z2 z3 z4 z5 z6 z7 z8 z9:Option SV):
  ∃y2 y3 y4 y5 y6 y7 y8 y9,kS [Y (.scr ns),YI a,z2,z3,z4,z5,z6,z7,z8,z9]=YN [Y (.scr ns),YI a,y2,y3,y4,y5,y6,y7,y8,y9]:=by
 obtain⟨g,hg,gp,gb⟩:=D1 (f 3 / 7)
 obtain⟨p0,c1,q0,r0,B1⟩:=wB (f 0) (f 1) g gp gb
 obtain⟨p2,c2,q2,r2,B2⟩:=wB (f 2) (f 3) g gp gb
 have g0:atR ((List.range 6).map fun k=>PV.int (f k)) 0 id=.ok (.int (f 0)):=rfl
 have g1:atR ((List.range 6).map fun k=>PV.int (f k)) 1 id=.ok (.int (f 1)):=rfl
 have g2:atR ((List.range 6).map fun k=>PV.int (f k)) 2 id=.ok (.int (f 2)):=rfl
 have g3:atR ((List.range 6).map fun k=>PV.int (f k)) 3 id=.ok (.int (f 3)):=rfl
 have g4:atR ((List.range 6).map fun k=>PV.int (f k)) 4 id=.ok (.int (f 4)):=rfl
 have g5:atR ((List.range 6).map fun k=>PV.int (f k)) 5 id=.ok (.int (f 5)):=rfl
 have tc:=uA ns a f hf z2 z3 z4 z5 z6 z7 z8 z9
 obtain⟨x,y,w,hs,S⟩:=zt B1 B2 (f 4) (f 5) g gb
 obtain⟨T,hT,H⟩:=BX B1 B2 S
 obtain⟨m,hmx,ub,n0,hn0,en0⟩:=BV (c2:=c2) B1 x y w
 have u1:0<m→T.map tP=[]:=fun z=>by
  rw[List.map_eq_nil_iff]
  refine List.eq_nil_iff_forall_not_mem.mpr fun V hV=>?_
  have vt:=H.vtx V hV
  have:=(jI B1 B2 S.pos vt.pos vt.all n0).1
  omega
 have u2:m=0→∃(k:Nat)(N:PV),jY (.lst ((dk c1 c2).map fun n=>PV.int (cE c1 c2 x y w n))) (.int 0)=.ok (.int (k:Int))∧atR ((dk c1 c2).map ptP) (k:Int) id=.ok N∧aM [.lst (T.map tP),.lst (c1.map ptP),.lst (c2.map ptP),YT x y w,N]=.ok (.bl true):=fun z=>by
  obtain⟨n,k,hn,en,h1,h2⟩:=xS (ds:=dk c1 c2) (cE c1 c2 x y w) (by rw[←z,←en0];exact List.mem_map_of_mem hn0)
  obtain⟨pn,nn⟩:=tf B1 B2 (D2.mp hn)
  exact⟨k,_,h1,h2,zr B1 B2 S H nn pn en⟩
 have u3:m<0→aF [.lst (T.map tP),.lst (c1.map ptP),.lst (c2.map ptP),YT x y w]=.ok (.bl true):=fun z=>by
  have shut:∀n:Pt,n≠(0,0)→cE c1 c2 x y w n<0:=fun n hn=>by
   rcases Int.lt_or_le (cE c1 c2 x y w n) 0 with k|k
   ·exact k
   ·obtain⟨d,hd,k'⟩:=sat B1 B2 S.pos hn k
    have:=ub d (D2.mpr hd)
    omega
  obtain⟨X,Y,W,hW,hin⟩:=wU B1 B2 S.pos shut
  obtain⟨A,hA,B,hB,C,hC,d1,d2,d3⟩:=mD (held B1 c2 x y w) (xc B1 B2 S.pos) hW hin (fun V hV=>(H.vtx V hV).pos) H.all
  exact wt B1 B2 S H (tM hA hB hC d1 d2 d3)
 have td:=zv B1 B2
 have tg:=fun z0 z1 z2 z3 z7 z9=>wI B1 B2 S z0 z1 z2 z3 z7 z9
 generalize (List.range 6).map (fun k=>PV.int (f k))=C at *
 generalize ((dk c1 c2).map fun n=>PV.int (cE c1 c2 x y w n))=E at *
 generalize (dk c1 c2).map ptP=D at *
 generalize c1.map ptP=C1 at *
 generalize c2.map ptP=C2 at *
 generalize T.map tP=L at *
 exact⟨_,_,_,_,_,_,_,_,id (aN _ _ tc (aN _ _ (di (p:=.int g) (by simp[g3,hg])) (aN _ _ (di (p:=.lst C1) (by simp[g0,g1,q0,r0])) (aN _ _ (di (p:=.lst C2) (by simp[g2,g3,q2,r2])) (aN _ _ (di (p:=YT x y w) (by simp[g4,g5,hs])) (aN _ _ (tR dP (p:=.lst C1) (q:=.lst C2) (by simp) (by simp) rfl hT) (aN _ _ (tT aW rfl rfl td) (aN _ _ (tg _ _ _ _ _ _) (zA aM aF hmx u1 u2 u3)))))))))⟩
theorem D0(ns:List Int)(hl:ns.length≤63):qK [.scr ns]=.ok (.bl true):=by
 unfold qK;rw[pQ]
 have hr:∃ps,ib [PV.int 0,PV.int (if (if (30:Int)<((ns.length:Nat):Int) then 30 else ((ns.length:Nat):Int))>1 then (if (30:Int)<((ns.length:Nat):Int) then 30 else ((ns.length:Nat):Int)) else 1),PV.int 6]=.ok ps∧∀p∈ps,∃a:Int,p=.int a∧0≤a:=by
  refine⟨_,if_pos ⟨by decide,by decide,by repeat' split<;>omega,by repeat' split<;>omega,by decide,by decide⟩,fun p hp=>?_⟩
  obtain⟨i,_,rfl⟩:=lz hp
  exact⟨_,rfl,by omega⟩
 obtain⟨ps,hps,hall⟩:=hr
 obtain⟨σ',h1,_⟩:=jz (gg:=gN 1) (c:=kS) (fun σ=>∃x1 x2 x3 x4 x5 x6 x7 x8 x9,σ=[Y (.scr ns),x1,x2,x3,x4,x5,x6,x7,x8,x9]) (fun p=>∃a:Int,p=.int a∧0≤a)
  (by
   rintro p σ ⟨a,rfl,ha⟩ ⟨x1,x2,x3,x4,x5,x6,x7,x8,x9,rfl⟩
   have hc:∀k:Nat,∃c,bZ [.scr ns,.int (a+(k:Int))]=.ok (.int c):=fun k=>B3 ns (a+k) (by omega)
   obtain⟨y2,y3,y4,y5,y6,y7,y8,y9,h⟩:=wH ns a (fun k=>Classical.choose (hc k)) (fun k=>Classical.choose_spec (hc k)) x2 x3 x4 x5 x6 x7 x8 x9
   exact⟨_,_,rfl,h,_,_,_,_,_,_,_,_,_,rfl⟩) ps hall _ ⟨none,none,none,none,none,none,none,none,none,rfl⟩
 simp only[tj,bJ,gE,wQ,dr,fh,oX,oW,ar,zU,CH,xQ,xP,hps]
 change fin (Res.bind (cO (gN 1) kS ps [Y (.scr ns),none,none,none,none,none,none,none,none,none]) _)=_
 rw[h1]
 rfl
end Law
namespace Law
open PySem PySem.Spec PyProof.Rows L2 G
theorem all_mk {P:Program}{w:World}{K:PySem.W.Frag}{h:Heap}{mg:Str→Option Value}{C_MIDDLE:Addr}(KI:K.In h)(GN:h.Ns mainGlobals mg)(Gw:DefAt K "_law_big" (top 36))(Gx:DefAt K "_law_cell" (top 33))(Gy:DefAt K "_law_directions" (top 38))(Gz:DefAt K "_law_gap" (top 37))(GC:DefAt K "_law_points" (top 34))(Gv:DefAt K "_law_bend" (top 39))(GA:DefAt K "_law_on_a_side" (top 40))(GB:DefAt K "_law_outer" (top 41))(GD:DefAt K "_law_region_right" (top 42))(GV:DefAt K "divisor" (top 11))(G0:DefAt K "is_whole" (top 10))(G7:DefAt K "spot" (top 15))(GF:DefAt K "_law_shift" (top 35))(GH:DefAt K "_law_span" (top 43))(GI:DefAt K "_law_touch_right" (top 44))(G2:DefAt K "left_by" (top 5))(G8:DefAt K "turns_left" (top 6))(GP:DefAt K "chain" (top 7))(GX:DefAt K "hull" (top 8))(G4:DefAt K "put_at" (top 16))(G6:DefAt K "sides" (top 21))(Ha:DefAt K "way_from" (top 18))(Hb:DefAt K "where" (top 22))(GQ:DefAt K "corners_within" (top 29))(GJ:DefAt K "across" (top 24))(GW:DefAt K "gone_on" (top 17))(GZ:DefAt K "is_part" (top 26))(G3:DefAt K "portion" (top 12))(G9:DefAt K "way_along" (top 25))(GR:DefAt K "crossing" (top 27))(GU:DefAt K "crossings" (top 28))(GL:DefAt K "ahead" (top 19))(GY:DefAt K "in_order" (top 30))(G5:DefAt K "shared" (top 31))(G1:DefAt K "law" (top 45))(KL:PySem.W.nsIn K mainGlobals "abs"=some none)(KW:PySem.W.nsIn K mainGlobals "len"=some none)(K1:PySem.W.nsIn K mainGlobals "range"=some none)(KZ:PySem.W.nsIn K mainGlobals "max"=some none)(K0:PySem.W.nsIn K mainGlobals "min"=some none)(KU:PySem.W.nsIn K mainGlobals "isinstance"=some none)(KS:PySem.W.nsIn K mainGlobals "int"=some none)(KP:PySem.W.nsIn K mainGlobals "bool"=some none)(K6:PySem.W.nsIn K mainGlobals "tuple"=some none)(KY:PySem.W.nsIn K mainGlobals "list"=some none)(K5:PySem.W.nsIn K mainGlobals "str"=some none)(KQ:PySem.W.nsIn K mainGlobals "dict"=some none)(K4:PySem.W.nsIn K mainGlobals "sorted"=some none)(K3:PySem.W.nsIn K mainGlobals "set"=some none)(K2:PySem.W.nsIn K mainGlobals "reversed"=some none)(K7:PySem.W.nsIn K mainGlobals "zip"=some none)(KR:PySem.W.nsIn K mainGlobals "enumerate"=some none)(KN:PySem.W.nsIn K mainGlobals "all"=some none)(KO:PySem.W.nsIn K mainGlobals "any"=some none)(II:PySem.W.nsIn K mainGlobals "MIDDLE"=some (some (.ref C_MIDDLE)))(KJ:qA K C_MIDDLE [0,0,1]=true):
    ∃(a:Addr) (fd:FuncData),mg "law"=some (.ref a)∧(∀(s:Shared) (u:Value),BindsTo s fd ⟨[u],[]⟩ [("script",u)])∧∀base:Heap,K.In base→base.Ns mainGlobals mg→FnOk P w K mg base (CXG P w) 7 a fd ["script"] (Fsp K 1 qK):=by
 have B:Bi mg:=⟨PySem.W.mg_none_of KI GN KL,PySem.W.mg_none_of KI GN KW,PySem.W.mg_none_of KI GN K1,PySem.W.mg_none_of KI GN KZ,PySem.W.mg_none_of KI GN K0,PySem.W.mg_none_of KI GN KU,PySem.W.mg_none_of KI GN KS,PySem.W.mg_none_of KI GN KP,PySem.W.mg_none_of KI GN K6,PySem.W.mg_none_of KI GN KY,PySem.W.mg_none_of KI GN K5,PySem.W.mg_none_of KI GN KQ,PySem.W.mg_none_of KI GN K4,PySem.W.mg_none_of KI GN K3,PySem.W.mg_none_of KI GN K2,PySem.W.mg_none_of KI GN K7,PySem.W.mg_none_of KI GN KR,PySem.W.mg_none_of KI GN KN,PySem.W.mg_none_of KI GN KO⟩
 have KG:∀(y:Str)(C:Addr),dQ K y C→mg y=some (.ref C):=fun y C hc=>PySem.W.mg_of KI GN hc
 have HN:ConAt K "MIDDLE" [0,0,1]:=Cz II KJ
 refine B6 G1 KI GN (fun _ _ _ _ _ _ us hl=>match us,hl with | [_],_=>rfl) (fun base f fd F=>?_)
 have Hd:=qp (P:=P) (w:=w) (base:=base) Gw KI GN B
 have He:=oN (P:=P) (w:=w) (base:=base) Gx KI GN B
 have Hf:=jd (P:=P) (w:=w) (base:=base) Gy KI GN B
 have Hg:=qo (P:=P) (w:=w) (base:=base) Gz KI GN B
 have Hj:=lW (P:=P) (w:=w) (base:=base) GC KI GN B
 have Hc:=oO (P:=P) (w:=w) (base:=base) Gv KI GN B
 have Hh:=jx GA KI GN B Hc
 have Hi:=mP GB KI GN B Hc
 have Hk:=gQ GD KI GN B Hh Hi
 have Hw:=rM (P:=P) (w:=w) (base:=base) GV KI GN B
 have HB:=qi (P:=P) (w:=w) (base:=base) G0 KI GN B
 have HH:=zM G7 KI GN B Hw HB
 have Hl:=mO GF KI GN B HH
 have Hm:=oM (P:=P) (w:=w) (base:=base) GH KI GN B
 have Hn:=iO GI KI GN B Hm
 have HC:=rJ (P:=P) (w:=w) (base:=base) G2 KI GN B
 have HI:=mN G8 KI GN B HC
 have Hr:=wZ GP KI GN B HI
 have Hy:=zN GX KI GN B Hr
 have HE:=uG G4 KI GN B HH
 have HG:=wX (P:=P) (w:=w) (base:=base) G6 KI GN B
 have HK:=qh Ha KI GN B HH
 have HL:=wW Hb KI GN B HC HG HK
 have Ht:=jw GQ KI GN B HE HL
 have Ho:=uH (P:=P) (w:=w) (base:=base) GJ KI GN B
 have Hx:=rL GW KI GN B HH
 have HA:=rK (P:=P) (w:=w) (base:=base) GZ KI GN B
 have HD:=rH G3 KI GN B Hw HB
 have HJ:=oJ (P:=P) (w:=w) (base:=base) G9 KI GN B
 have Hu:=qk (P:=P) (w:=w) (base:=base) GR KI GN B Ho Hx HA HD HE HJ HN KG
 have Hv:=oK GU KI GN B Hu HG
 have Hq:=w4 (P:=P) (w:=w) (base:=base) GL KI GN B
 have Hz:=qj GY KI GN B Hq
 have HF:=uF (P:=P) (w:=w) (base:=base) G5 KI GN B Ht Hv Hz HN KG
 exact Cn F B Hd He Hf Hg Hj Hk Hl Hn Hy HF
end Law
def PySem.W.Fast.tw9022915762051299737:=0
def PySem.W.Fast.tw16455806598735138056:=0
def PySem.W.Fast.tw16030335723216589051:=0
def PySem.W.Fast.tw9579468130777942643:=0
def PySem.W.Fast.tw5923018446831293473:=0
def PySem.W.Fast.tw6014369668526041764:=0
def PySem.W.Fast.tw15998334124422030024:=0
def PySem.W.Fast.tw15414842764126367946:=0
def PySem.W.Fast.tw5764374477362245323:=0
def PySem.W.Fast.tw14282862437816233002:=0
def PySem.W.Fast.tw17817055744828008009:=0
def PySem.W.Fast.tw4969855921450453698:=0
def PySem.W.Fast.tw8125298316418102790:=0
def PySem.W.Fast.tw17732283251658167051:=0
def PySem.W.Fast.tw531241779473080780:=0
def PySem.W.Fast.tw12600029655017877937:=0
def PySem.W.Fast.tw3749632300579122614:=0
def PySem.W.Fast.tw13662092873011933962:=0
open PySem PySem.W PyProof.Rows
set_option maxRecDepth 100000 in
set_option maxHeartbeats 0 in
theorem PySem.Challenge.cw_glide_k17_whole_nothing_shared_is_left_o_holds : PySem.Challenge.rw_glide_k17_whole_nothing_shared_is_left_o.Holds := by
  w_on; o_law; k_head; (case hw => w_witness2)
  k_fill
  refine G.wG (l := PySem.Challenge.rw_glide_k17_whole_nothing_shared_is_left_o) (k := 7) (m := Law.qK) rfl rfl ⟨rfl, by decide, by decide⟩ (fun w h Y => PySem.W.kIn_of Y) rfl ?F Law.D0
  case F =>
    intro w mg h KX GN
    refine' Law.all_mk KX GN (G.aL ?HQ ?J6 ?IK ?Jx) (G.aL ?HR ?J7 ?IL ?Jy) (G.aL ?HU ?J8 ?IM ?Jz) (G.aL ?HV ?J9 ?IP ?JA) (G.aL ?HY ?Kc ?IU ?JD) (G.aL ?HP ?J5 ?IJ ?Jw) (G.aL ?HW ?Ka ?IQ ?JB) (G.aL ?HX ?Kb ?IT ?JC) (G.aL ?HZ ?Kd ?IV ?JE) (G.aL ?Il ?Kn ?Jf ?JO) (G.aL ?Ir ?Ks ?Jk ?JT) (G.aL ?IB ?Kz ?Jr ?J0) (G.aL ?Ia ?Ke ?IW ?JF) (G.aL ?Ib ?Kf ?IX ?JG) (G.aL ?Ic ?Kg ?IY ?JH) (G.aL ?Iv ?Ku ?Jm ?JV) (G.aL ?IC ?KA ?Js ?J1) (G.aL ?Ih ?Kj ?Jb ?JK) (G.aL ?Io ?Kp ?Jh ?JQ) (G.aL ?Iy ?Kw ?Jo ?JX) (G.aL ?IA ?Ky ?Jq ?JZ) (G.aL ?IG ?KD ?Ju ?J3) (G.aL ?IH ?KH ?Jv ?J4) (G.aL ?Ii ?Kk ?Jc ?JL) (G.aL ?Ie ?Kh ?IZ ?JI) (G.aL ?Im ?Ko ?Jg ?JP) (G.aL ?Iq ?Kr ?Jj ?JS) (G.aL ?Iw ?Kv ?Jn ?JW) (G.aL ?IE ?KC ?Jt ?J2) (G.aL ?Ij ?Kl ?Jd ?JM) (G.aL ?Ik ?Km ?Je ?JN) (G.aL ?Ig ?Ki ?Ja ?JJ) (G.aL ?Ip ?Kq ?Ji ?JR) (G.aL ?Iz ?Kx ?Jp ?JY) (G.aL ?Iu ?Kt ?Jl ?JU)  ?KL ?KW ?K1 ?KZ ?K0 ?KU ?KS ?KP ?K6 ?KY ?K5 ?KQ ?K4 ?K3 ?K2 ?K7 ?KR ?KN ?KO ?II ?KJ
    (case II=>(try unfold G.dQ); k_is);(case HQ=>k_is);(case J6=>k_is);(case IK=>k_is);(case Jx=>k_is);(case HR=>k_is);(case J7=>k_is);(case IL=>k_is);(case Jy=>k_is);(case HU=>k_is);(case J8=>k_is);(case IM=>k_is);(case Jz=>k_is);(case HV=>k_is);(case J9=>k_is);(case IP=>k_is);(case JA=>k_is);(case HY=>k_is);(case Kc=>k_is);(case IU=>k_is);(case JD=>k_is);(case HP=>k_is);(case J5=>k_is);(case IJ=>k_is);(case Jw=>k_is);(case HW=>k_is);(case Ka=>k_is);(case IQ=>k_is);(case JB=>k_is);(case HX=>k_is);(case Kb=>k_is);(case IT=>k_is);(case JC=>k_is);(case HZ=>k_is);(case Kd=>k_is);(case IV=>k_is);(case JE=>k_is);(case Il=>k_is);(case Kn=>k_is);(case Jf=>k_is);(case JO=>k_is);(case Ir=>k_is);(case Ks=>k_is);(case Jk=>k_is);(case JT=>k_is);(case IB=>k_is);(case Kz=>k_is);(case Jr=>k_is);(case J0=>k_is);(case Ia=>k_is);(case Ke=>k_is);(case IW=>k_is);(case JF=>k_is);(case Ib=>k_is);(case Kf=>k_is);(case IX=>k_is);(case JG=>k_is);(case Ic=>k_is);(case Kg=>k_is);(case IY=>k_is);(case JH=>k_is);(case Iv=>k_is);(case Ku=>k_is);(case Jm=>k_is);(case JV=>k_is);(case IC=>k_is);(case KA=>k_is);(case Js=>k_is);(case J1=>k_is);(case Ih=>k_is);(case Kj=>k_is);(case Jb=>k_is);(case JK=>k_is);(case Io=>k_is);(case Kp=>k_is);(case Jh=>k_is);(case JQ=>k_is);(case Iy=>k_is);(case Kw=>k_is);(case Jo=>k_is);(case JX=>k_is);(case IA=>k_is);(case Ky=>k_is);(case Jq=>k_is);(case JZ=>k_is);(case IG=>k_is);(case KD=>k_is);(case Ju=>k_is);(case J3=>k_is);(case IH=>k_is);(case KH=>k_is);(case Jv=>k_is);(case J4=>k_is);(case Ii=>k_is);(case Kk=>k_is);(case Jc=>k_is);(case JL=>k_is);(case Ie=>k_is);(case Kh=>k_is);(case IZ=>k_is);(case JI=>k_is);(case Im=>k_is);(case Ko=>k_is);(case Jg=>k_is);(case JP=>k_is);(case Iq=>k_is);(case Kr=>k_is);(case Jj=>k_is);(case JS=>k_is);(case Iw=>k_is);(case Kv=>k_is);(case Jn=>k_is);(case JW=>k_is);(case IE=>k_is);(case KC=>k_is);(case Jt=>k_is);(case J2=>k_is);(case Ij=>k_is);(case Kl=>k_is);(case Jd=>k_is);(case JM=>k_is);(case Ik=>k_is);(case Km=>k_is);(case Je=>k_is);(case JN=>k_is);(case Ig=>k_is);(case Ki=>k_is);(case Ja=>k_is);(case JJ=>k_is);(case Ip=>k_is);(case Kq=>k_is);(case Ji=>k_is);(case JR=>k_is);(case Iz=>k_is);(case Kx=>k_is);(case Jp=>k_is);(case JY=>k_is);(case Iu=>k_is);(case Kt=>k_is);(case Jl=>k_is);(case JU=>k_is);(case KL=>k_is);(case KW=>k_is);(case K1=>k_is);(case KZ=>k_is);(case K0=>k_is);(case KU=>k_is);(case KS=>k_is);(case KP=>k_is);(case K6=>k_is);(case KY=>k_is);(case K5=>k_is);(case KQ=>k_is);(case K4=>k_is);(case K3=>k_is);(case K2=>k_is);(case K7=>k_is);(case KR=>k_is);(case KN=>k_is);(case KO=>k_is);(case KJ=>kernel_rfl)
